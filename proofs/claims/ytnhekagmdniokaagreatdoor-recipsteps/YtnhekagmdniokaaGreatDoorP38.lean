import Derived.Test.YtnhekagmdniokaaGreatDoorP36
namespace Go.Proofs.YtnhekagmdniokaaGreatDoor
open Go.RowKit
set_option linter.unusedVariables false
set_option linter.unusedSimpArgs false

theorem put3_block {w : World} {b : Nat} {c0 c1 c2 : Value} {T : TypeId} {fr : Nat × Nat} (h : w.heap[b]? = some (.cells #[c0, c1, c2] T fr)) (v0 v1 v2 : Value) : (((w.setCell ⟨b, 0, none⟩ v0).setCell ⟨b, 1, none⟩ v1).setCell ⟨b, 2, none⟩ v2).heap[b]? = some (.cells #[v0, v1, v2] T fr) := by
  rw [put1_at (put1_at (put1_at h v0) v1) v2]
  rfl
theorem Nz.set {w : World} {s : Bool} {ad : Option Addr} {n cap B : Nat} {e : Int} {X : Int} {M : Nat} {u0 : Bool} {u1 : Option Addr} {u2 u3 : Nat} {u4 : Int} {T : TypeId} (h : Nz w s ad n cap e X M) (hb : w.heap[B]? = some (.cells #[.bool u0, .slice u1 u2 u3, .int .i64 u4] T)) (v0 v1 v2 : Value) : Nz (((w.setCell ⟨B, 0, none⟩ v0).setCell ⟨B, 1, none⟩ v1).setCell ⟨B, 2, none⟩ v2) s ad n cap e X M := by
  obtain ⟨m, h1, h2⟩ := h
  exact ⟨m, h1.set3 (h1.apart hb) _ _ _, h2⟩
def RSt9 (t0 t1 t2 t3 t4 t5 t6 t7 t9 t10 t11 t12 t15 t16 t17 t18 t19 t20 t21 t22 t23 t24 t25 t26 t27 t28 t29 t30 t31 t32 t33 t34 t35 t36 t37 t38 t39 t40 t41 t42 t43 t44 t45 t46 t47 t48 t49 t50 t51 t52 t53 t54 t55 t56 t57 t58 t59 t60 t61 t62 t63 t64 t65 t66 t67 t68 t69 t70 t71 t72 t73 t74 t75 t76 t77 t78 t79 t80 t81 t82 t83 t84 t85 t86 t87 : Value) (pA nA cA pB nB cB pC nC cC : Nat) (sA sB sC : Bool) (aA aB aC : Option Addr) (eA eB : Int) (VC V2 V : Int) (MC M2 M : Nat) (wq : World) : Exit → Act → World → Prop
  | .normal, a, w => ∃ u47 u48 u49 u50 u51 u52 bS s a9 n9 c9 e, a = { tmps := #[t0, t1, t2, t3, t4, t5, t6, t7, .pointer (some ⟨pC, 0, none⟩), t9, t10, t11, t12, .pointer (some ⟨pA, 0, none⟩), .pointer (some ⟨pB, 0, none⟩), .pointer (some ⟨bS, 0, none⟩), t16, t17, t18, t19, t20, t21, t22, t23, t24, t25, t26, t27, t28, t29, t30, t31, t32, t33, t34, t35, t36, t37, t38, t39, t40, t41, t42, t43, t44, t45, t46, u47, u48, u49, u50, u51, u52, t53, t54, t55, t56, t57, t58, t59, t60, t61, t62, t63, t64, t65, t66, t67, t68, t69, t70, t71, t72, t73, t74, t75, t76, t77, t78, t79, t80, t81, t82, t83, t84, t85, t86, t87], defers := [] } ∧ w.heap[bS]? = some (.cells #[.bool s, .slice a9 n9 c9, .int .i64 e] 40) ∧ Nz w s a9 n9 c9 e V M ∧ wq.heap.size ≤ bS ∧ Gr wq w
  | _, _, _ => False
set_option maxRecDepth 100000 in
set_option maxHeartbeats 20000000 in
theorem regSt9 (t0 t1 t2 t3 t4 t5 t6 t7 t9 t10 t11 t12 t15 t16 t17 t18 t19 t20 t21 t22 t23 t24 t25 t26 t27 t28 t29 t30 t31 t32 t33 t34 t35 t36 t37 t38 t39 t40 t41 t42 t43 t44 t45 t46 t47 t48 t49 t50 t51 t52 t53 t54 t55 t56 t57 t58 t59 t60 t61 t62 t63 t64 t65 t66 t67 t68 t69 t70 t71 t72 t73 t74 t75 t76 t77 t78 t79 t80 t81 t82 t83 t84 t85 t86 t87 : Value) (pA nA cA pB nB cB pC nC cC : Nat) (sA sB sC : Bool) (aA aB aC : Option Addr) (eA eB : Int) (VC V2 V : Int) (MC M2 M : Nat) (wq : World)
    (X1 : Hid (∀ w1, Gr wq w1 → Calls Tryz.prog 21 #[.agg #[.bool sC, .slice aC nC cC]] w1 fun r w' => NzA w' r VC MC ∧ Gr w1 w'))
    (X2 : Hid (∀ w1 s a n c e, Gr wq w1 → Nz w1 s a n c e VC MC → Calls Tryz.prog 23 #[.agg #[.bool sB, .slice aB nB cB, .int .i64 eB], .agg #[.bool s, .slice a n c, .int .i64 e]] w1 fun r w' => NzA w' r V2 M2 ∧ Gr w1 w'))
    (X3 : Hid (∀ w1 s a n c e, Gr wq w1 → Nz w1 s a n c e V2 M2 → Calls Tryz.prog 22 #[.agg #[.bool sA, .slice aA nA cA, .int .i64 eA], .agg #[.bool s, .slice a n c, .int .i64 e]] w1 fun r w' => NzA w' r V M ∧ Gr w1 w')) (hpA : pA < wq.heap.size) (hpB : pB < wq.heap.size) (hpC : pC < wq.heap.size) (hcs : (wq.cell? ⟨pA, 0, none⟩ = some (.bool sA) ∧ wq.cell? ⟨pA, 1, none⟩ = some (.slice aA nA cA) ∧ wq.cell? ⟨pA, 2, none⟩ = some (.int .i64 eA) ∧ wq.cell? ⟨pB, 0, none⟩ = some (.bool sB) ∧ wq.cell? ⟨pB, 1, none⟩ = some (.slice aB nB cB) ∧ wq.cell? ⟨pB, 2, none⟩ = some (.int .i64 eB) ∧ wq.cell? ⟨pC, 0, none⟩ = some (.bool sC) ∧ wq.cell? ⟨pC, 1, none⟩ = some (.slice aC nC cC))) :
    Code.wp Tryz.prog (Code.region 9 #[{ dst := some 47, op := Op.load 40 (Operand.tmp 13), type := 40, pos := "outright.go:24", after := #[], guard := none }, { dst := some 48, op := Op.load 40 (Operand.tmp 14), type := 40, pos := "outright.go:24", after := #[], guard := none }, { dst := some 49, op := Op.load 24 (Operand.tmp 8), type := 24, pos := "outright.go:24", after := #[], guard := none }, { dst := some 50, op := Op.call { callee := Callee.value (Operand.func 21), args := #[Operand.tmp 49], argTypes := #[24] }, type := 40, pos := "outright.go:24", after := #[{ on := 2, ground := Ground.data }], guard := none }, { dst := some 51, op := Op.call { callee := Callee.value (Operand.func 23), args := #[Operand.tmp 48, Operand.tmp 50], argTypes := #[40, 40] }, type := 40, pos := "outright.go:24", after := #[{ on := 1, ground := Ground.data }, { on := 3, ground := Ground.data }, { on := 3, ground := Ground.chain }], guard := none }, { dst := some 52, op := Op.call { callee := Callee.value (Operand.func 22), args := #[Operand.tmp 47, Operand.tmp 51], argTypes := #[40, 40] }, type := 40, pos := "outright.go:24", after := #[{ on := 0, ground := Ground.data }, { on := 4, ground := Ground.data }, { on := 4, ground := Ground.chain }], guard := none }, { dst := some 15, op := Op.alloc 40, type := 0, pos := "outright.go:24", after := #[], guard := none }, { dst := none, op := Op.store 40 (Operand.tmp 15) (Operand.tmp 52), type := 0, pos := "outright.go:24", after := #[{ on := 6, ground := Ground.data }, { on := 5, ground := Ground.data }, { on := 5, ground := Ground.chain }, { on := 0, ground := Ground.phase }, { on := 1, ground := Ground.phase }, { on := 2, ground := Ground.phase }, { on := 3, ground := Ground.phase }, { on := 4, ground := Ground.phase }, { on := 5, ground := Ground.phase }, { on := 6, ground := Ground.phase }], guard := none }] true) (RSt9 t0 t1 t2 t3 t4 t5 t6 t7 t9 t10 t11 t12 t15 t16 t17 t18 t19 t20 t21 t22 t23 t24 t25 t26 t27 t28 t29 t30 t31 t32 t33 t34 t35 t36 t37 t38 t39 t40 t41 t42 t43 t44 t45 t46 t47 t48 t49 t50 t51 t52 t53 t54 t55 t56 t57 t58 t59 t60 t61 t62 t63 t64 t65 t66 t67 t68 t69 t70 t71 t72 t73 t74 t75 t76 t77 t78 t79 t80 t81 t82 t83 t84 t85 t86 t87 pA nA cA pB nB cB pC nC cC sA sB sC aA aB aC eA eB VC V2 V MC M2 M wq) { tmps := #[t0, t1, t2, t3, t4, t5, t6, t7, .pointer (some ⟨pC, 0, none⟩), t9, t10, t11, t12, .pointer (some ⟨pA, 0, none⟩), .pointer (some ⟨pB, 0, none⟩), t15, t16, t17, t18, t19, t20, t21, t22, t23, t24, t25, t26, t27, t28, t29, t30, t31, t32, t33, t34, t35, t36, t37, t38, t39, t40, t41, t42, t43, t44, t45, t46, t47, t48, t49, t50, t51, t52, t53, t54, t55, t56, t57, t58, t59, t60, t61, t62, t63, t64, t65, t66, t67, t68, t69, t70, t71, t72, t73, t74, t75, t76, t77, t78, t79, t80, t81, t82, t83, t84, t85, t86, t87], defers := [] } wq := by
  have hS0 : (wq.drew.cell? ⟨pA, 0, none⟩ = some (.bool sA) ∧ wq.drew.cell? ⟨pA, 1, none⟩ = some (.slice aA nA cA) ∧ wq.drew.cell? ⟨pA, 2, none⟩ = some (.int .i64 eA) ∧ wq.drew.cell? ⟨pB, 0, none⟩ = some (.bool sB) ∧ wq.drew.cell? ⟨pB, 1, none⟩ = some (.slice aB nB cB) ∧ wq.drew.cell? ⟨pB, 2, none⟩ = some (.int .i64 eB) ∧ wq.drew.cell? ⟨pC, 0, none⟩ = some (.bool sC) ∧ wq.drew.cell? ⟨pC, 1, none⟩ = some (.slice aC nC cC)) ∧ Gr wq wq.drew := ⟨hcs, (Gr.refl wq).drew⟩
  clear hcs
  refine wp_region_held_drew (S := fun w' => (w'.cell? ⟨pA, 0, none⟩ = some (.bool sA) ∧ w'.cell? ⟨pA, 1, none⟩ = some (.slice aA nA cA) ∧ w'.cell? ⟨pA, 2, none⟩ = some (.int .i64 eA) ∧ w'.cell? ⟨pB, 0, none⟩ = some (.bool sB) ∧ w'.cell? ⟨pB, 1, none⟩ = some (.slice aB nB cB) ∧ w'.cell? ⟨pB, 2, none⟩ = some (.int .i64 eB) ∧ w'.cell? ⟨pC, 0, none⟩ = some (.bool sC) ∧ w'.cell? ⟨pC, 1, none⟩ = some (.slice aC nC cC)) ∧ Gr wq w') (by kernel_rfl) hS0 (fun hHeld => ?_)
  clear hS0
  generalize wq.drew = wd at *
  refine wpAnyH_take (i := 0) (oi := ({ dst := some 47, op := Op.load 40 (Operand.tmp 13), type := 40, pos := "outright.go:24", after := #[], guard := none } : Oper)) (v := ?_) rfl (by kernel_rfl) (by kernel_rfl) (by kernel_rfl) (fun _ _ _ h => h) (Or.inl ⟨by rfl, ?_⟩) (by with_reducible assumption) ?_
  rotate_left
  · intro w hSw
    (try dsimp only at hSw)
    first | (go_simp; done) | (go_simp; with_reducible rfl)
  (try simp only [Act.put, List.setIfInBounds_toArray, List.set_cons_zero, List.set_cons_succ])
  refine wpAnyH_take (i := 1) (oi := ({ dst := some 48, op := Op.load 40 (Operand.tmp 14), type := 40, pos := "outright.go:24", after := #[], guard := none } : Oper)) (v := ?_) rfl (by kernel_rfl) (by kernel_rfl) (by kernel_rfl) (fun _ _ _ h => h) (Or.inl ⟨by rfl, ?_⟩) (by with_reducible assumption) ?_
  rotate_left
  · intro w hSw
    (try dsimp only at hSw)
    first | (go_simp; done) | (go_simp; with_reducible rfl)
  (try simp only [Act.put, List.setIfInBounds_toArray, List.set_cons_zero, List.set_cons_succ])
  refine wpAnyH_take (i := 2) (oi := ({ dst := some 49, op := Op.load 24 (Operand.tmp 8), type := 24, pos := "outright.go:24", after := #[], guard := none } : Oper)) (v := ?_) rfl (by kernel_rfl) (by kernel_rfl) (by kernel_rfl) (fun _ _ _ h => h) (Or.inl ⟨by rfl, ?_⟩) (by with_reducible assumption) ?_
  rotate_left
  · intro w hSw
    (try dsimp only at hSw)
    first | (go_simp; done) | (go_simp; with_reducible rfl)
  (try simp only [Act.put, List.setIfInBounds_toArray, List.set_cons_zero, List.set_cons_succ])
  refine wpAnyH_ready (rs := [3, 6]) (by kernel_rfl) (by simp) ?_
  refine AllReadyH.cons (o := ({ dst := some 50, op := Op.call { callee := Callee.value (Operand.func 21), args := #[Operand.tmp 49], argTypes := #[24] }, type := 40, pos := "outright.go:24", after := #[{ on := 2, ground := Ground.data }], guard := none } : Oper)) rfl (fun K hK => ?_) ?_
  · go_simp
    with_reducible refine (X1.out _ hHeld.2).mono ?_
    rintro r wc1 ⟨⟨s1, a1, n1, c1, e1, rfl, N1_4⟩, gg3⟩
    refine hK.out _ _ ⟨⟨keepG gg3 hHeld.1.1, keepG gg3 hHeld.1.2.1, keepG gg3 hHeld.1.2.2.1, keepG gg3 hHeld.1.2.2.2.1, keepG gg3 hHeld.1.2.2.2.2.1, keepG gg3 hHeld.1.2.2.2.2.2.1, keepG gg3 hHeld.1.2.2.2.2.2.2.1, keepG gg3 hHeld.1.2.2.2.2.2.2.2⟩, hHeld.2.trans gg3⟩ (fun hH2 => ?_)
    have hzwc1 := hHeld.2.size
    clear hK K
    (try simp only [Act.put, List.setIfInBounds_toArray, List.set_cons_zero, List.set_cons_succ])
    refine wpAnyH_ready (rs := [4, 6]) (by kernel_rfl) (by simp) ?_
    refine AllReadyH.cons (o := ({ dst := some 51, op := Op.call { callee := Callee.value (Operand.func 23), args := #[Operand.tmp 48, Operand.tmp 50], argTypes := #[40, 40] }, type := 40, pos := "outright.go:24", after := #[{ on := 1, ground := Ground.data }, { on := 3, ground := Ground.data }, { on := 3, ground := Ground.chain }], guard := none } : Oper)) rfl (fun K hK => ?_) ?_
    · go_simp
      with_reducible refine (X2.out _ _ _ _ _ _ hH2.2 N1_4).mono ?_
      rintro r wc5 ⟨⟨s2, a2, n2, c2, e2, rfl, N2_8⟩, gg7⟩
      refine hK.out _ _ ⟨⟨keepG gg7 hH2.1.1, keepG gg7 hH2.1.2.1, keepG gg7 hH2.1.2.2.1, keepG gg7 hH2.1.2.2.2.1, keepG gg7 hH2.1.2.2.2.2.1, keepG gg7 hH2.1.2.2.2.2.2.1, keepG gg7 hH2.1.2.2.2.2.2.2.1, keepG gg7 hH2.1.2.2.2.2.2.2.2⟩, hH2.2.trans gg7⟩ (fun hH6 => ?_)
      have hzwc5 := hH2.2.size
      clear hK K
      (try simp only [Act.put, List.setIfInBounds_toArray, List.set_cons_zero, List.set_cons_succ])
      have N1_9 := N1_4.gr gg7
      clear N1_4
      refine wpAnyH_ready (rs := [5, 6]) (by kernel_rfl) (by simp) ?_
      refine AllReadyH.cons (o := ({ dst := some 52, op := Op.call { callee := Callee.value (Operand.func 22), args := #[Operand.tmp 47, Operand.tmp 51], argTypes := #[40, 40] }, type := 40, pos := "outright.go:24", after := #[{ on := 0, ground := Ground.data }, { on := 4, ground := Ground.data }, { on := 4, ground := Ground.chain }], guard := none } : Oper)) rfl (fun K hK => ?_) ?_
      · go_simp
        with_reducible refine (X3.out _ _ _ _ _ _ hH6.2 N2_8).mono ?_
        rintro r wc10 ⟨⟨s3, a3, n3, c3, e3, rfl, N3_13⟩, gg12⟩
        refine hK.out _ _ ⟨⟨keepG gg12 hH6.1.1, keepG gg12 hH6.1.2.1, keepG gg12 hH6.1.2.2.1, keepG gg12 hH6.1.2.2.2.1, keepG gg12 hH6.1.2.2.2.2.1, keepG gg12 hH6.1.2.2.2.2.2.1, keepG gg12 hH6.1.2.2.2.2.2.2.1, keepG gg12 hH6.1.2.2.2.2.2.2.2⟩, hH6.2.trans gg12⟩ (fun hH11 => ?_)
        have hzwc10 := hH6.2.size
        clear hK K
        (try simp only [Act.put, List.setIfInBounds_toArray, List.set_cons_zero, List.set_cons_succ])
        have N1_14 := N1_9.gr gg12
        clear N1_9
        have N2_15 := N2_8.gr gg12
        clear N2_8
        refine wpAnyH_ready (rs := [6]) (by kernel_rfl) (by simp) ?_
        refine AllReadyH.cons (o := ({ dst := some 15, op := Op.alloc 40, type := 0, pos := "outright.go:24", after := #[], guard := none } : Oper)) rfl (fun K hK => ?_) AllReadyH.nil
        go_simp
        refine hK.out _ _ ⟨⟨keepG ((Gr.refl wc10).alloc (.cells #[.bool false, .slice none 0 0, .int .i64 0] 40)) hH11.1.1, keepG ((Gr.refl wc10).alloc (.cells #[.bool false, .slice none 0 0, .int .i64 0] 40)) hH11.1.2.1, keepG ((Gr.refl wc10).alloc (.cells #[.bool false, .slice none 0 0, .int .i64 0] 40)) hH11.1.2.2.1, keepG ((Gr.refl wc10).alloc (.cells #[.bool false, .slice none 0 0, .int .i64 0] 40)) hH11.1.2.2.2.1, keepG ((Gr.refl wc10).alloc (.cells #[.bool false, .slice none 0 0, .int .i64 0] 40)) hH11.1.2.2.2.2.1, keepG ((Gr.refl wc10).alloc (.cells #[.bool false, .slice none 0 0, .int .i64 0] 40)) hH11.1.2.2.2.2.2.1, keepG ((Gr.refl wc10).alloc (.cells #[.bool false, .slice none 0 0, .int .i64 0] 40)) hH11.1.2.2.2.2.2.2.1, keepG ((Gr.refl wc10).alloc (.cells #[.bool false, .slice none 0 0, .int .i64 0] 40)) hH11.1.2.2.2.2.2.2.2⟩, hH11.2.trans ((Gr.refl wc10).alloc (.cells #[.bool false, .slice none 0 0, .int .i64 0] 40))⟩ (fun hH17 => ?_)
        clear hK K
        (try simp only [Act.put, List.setIfInBounds_toArray, List.set_cons_zero, List.set_cons_succ])
        have bS_19 := blk1 wc10 (.cells #[.bool false, .slice none 0 0, .int .i64 0] 40)
        have gg18 := (Gr.refl wc10).alloc (.cells #[.bool false, .slice none 0 0, .int .i64 0] 40)
        have lS20 := hH11.2.size
        have N1_21 := N1_14.gr gg18
        clear N1_14
        have N2_22 := N2_15.gr gg18
        clear N2_15
        have N3_23 := N3_13.gr gg18
        clear N3_13
        generalize wc10.alloc (.cells #[.bool false, .slice none 0 0, .int .i64 0] 40) = wa16 at *
        refine wpAnyH_ready (rs := [7]) (by kernel_rfl) (by simp) ?_
        refine AllReadyH.cons (o := ({ dst := none, op := Op.store 40 (Operand.tmp 15) (Operand.tmp 52), type := 0, pos := "outright.go:24", after := #[{ on := 6, ground := Ground.data }, { on := 5, ground := Ground.data }, { on := 5, ground := Ground.chain }, { on := 0, ground := Ground.phase }, { on := 1, ground := Ground.phase }, { on := 2, ground := Ground.phase }, { on := 3, ground := Ground.phase }, { on := 4, ground := Ground.phase }, { on := 5, ground := Ground.phase }, { on := 6, ground := Ground.phase }], guard := none } : Oper)) rfl (fun K hK => ?_) AllReadyH.nil
        obtain ⟨⟨t0', t1', t2'⟩, u0', u1', u2'⟩ := outN bS_19
        go_simp
        refine hK.out _ _ ⟨⟨set3_far (Nat.ne_of_gt (Nat.lt_of_lt_of_le hpA lS20)) hH17.1.1, set3_far (Nat.ne_of_gt (Nat.lt_of_lt_of_le hpA lS20)) hH17.1.2.1, set3_far (Nat.ne_of_gt (Nat.lt_of_lt_of_le hpA lS20)) hH17.1.2.2.1, set3_far (Nat.ne_of_gt (Nat.lt_of_lt_of_le hpB lS20)) hH17.1.2.2.2.1, set3_far (Nat.ne_of_gt (Nat.lt_of_lt_of_le hpB lS20)) hH17.1.2.2.2.2.1, set3_far (Nat.ne_of_gt (Nat.lt_of_lt_of_le hpB lS20)) hH17.1.2.2.2.2.2.1, set3_far (Nat.ne_of_gt (Nat.lt_of_lt_of_le hpC lS20)) hH17.1.2.2.2.2.2.2.1, set3_far (Nat.ne_of_gt (Nat.lt_of_lt_of_le hpC lS20)) hH17.1.2.2.2.2.2.2.2⟩, (((hH17.2.setCell (p := ⟨_, 0, none⟩) lS20 _).setCell (p := ⟨_, 1, none⟩) lS20 _).setCell (p := ⟨_, 2, none⟩) lS20 _)⟩ (fun hS24 => ?_)
        clear hK K t0' t1' t2' u0' u1' u2'
        (try simp only [Act.put, List.setIfInBounds_toArray, List.set_cons_zero, List.set_cons_succ])
        refine wpAnyH_done (by kernel_rfl) ?_ _
        exact ⟨_, _, _, _, _, _, _, s3, a3, n3, c3, e3, rfl, put3_block bS_19 _ _ _, N3_23.set bS_19 _ _ _, lS20, hS24.2⟩
      refine AllReadyH.cons (o := ({ dst := some 15, op := Op.alloc 40, type := 0, pos := "outright.go:24", after := #[], guard := none } : Oper)) rfl (fun K hK => ?_) AllReadyH.nil
      go_simp
      refine hK.out _ _ ⟨⟨keepG ((Gr.refl wc5).alloc (.cells #[.bool false, .slice none 0 0, .int .i64 0] 40)) hH6.1.1, keepG ((Gr.refl wc5).alloc (.cells #[.bool false, .slice none 0 0, .int .i64 0] 40)) hH6.1.2.1, keepG ((Gr.refl wc5).alloc (.cells #[.bool false, .slice none 0 0, .int .i64 0] 40)) hH6.1.2.2.1, keepG ((Gr.refl wc5).alloc (.cells #[.bool false, .slice none 0 0, .int .i64 0] 40)) hH6.1.2.2.2.1, keepG ((Gr.refl wc5).alloc (.cells #[.bool false, .slice none 0 0, .int .i64 0] 40)) hH6.1.2.2.2.2.1, keepG ((Gr.refl wc5).alloc (.cells #[.bool false, .slice none 0 0, .int .i64 0] 40)) hH6.1.2.2.2.2.2.1, keepG ((Gr.refl wc5).alloc (.cells #[.bool false, .slice none 0 0, .int .i64 0] 40)) hH6.1.2.2.2.2.2.2.1, keepG ((Gr.refl wc5).alloc (.cells #[.bool false, .slice none 0 0, .int .i64 0] 40)) hH6.1.2.2.2.2.2.2.2⟩, hH6.2.trans ((Gr.refl wc5).alloc (.cells #[.bool false, .slice none 0 0, .int .i64 0] 40))⟩ (fun hH26 => ?_)
      clear hK K
      (try simp only [Act.put, List.setIfInBounds_toArray, List.set_cons_zero, List.set_cons_succ])
      have bS_28 := blk1 wc5 (.cells #[.bool false, .slice none 0 0, .int .i64 0] 40)
      have gg27 := (Gr.refl wc5).alloc (.cells #[.bool false, .slice none 0 0, .int .i64 0] 40)
      have lS29 := hH6.2.size
      have N1_30 := N1_9.gr gg27
      clear N1_9
      have N2_31 := N2_8.gr gg27
      clear N2_8
      generalize wc5.alloc (.cells #[.bool false, .slice none 0 0, .int .i64 0] 40) = wa25 at *
      refine wpAnyH_ready (rs := [5]) (by kernel_rfl) (by simp) ?_
      refine AllReadyH.cons (o := ({ dst := some 52, op := Op.call { callee := Callee.value (Operand.func 22), args := #[Operand.tmp 47, Operand.tmp 51], argTypes := #[40, 40] }, type := 40, pos := "outright.go:24", after := #[{ on := 0, ground := Ground.data }, { on := 4, ground := Ground.data }, { on := 4, ground := Ground.chain }], guard := none } : Oper)) rfl (fun K hK => ?_) AllReadyH.nil
      go_simp
      with_reducible refine (X3.out _ _ _ _ _ _ hH26.2 N2_31).mono ?_
      rintro r wc32 ⟨⟨s3, a3, n3, c3, e3, rfl, N3_35⟩, gg34⟩
      refine hK.out _ _ ⟨⟨keepG gg34 hH26.1.1, keepG gg34 hH26.1.2.1, keepG gg34 hH26.1.2.2.1, keepG gg34 hH26.1.2.2.2.1, keepG gg34 hH26.1.2.2.2.2.1, keepG gg34 hH26.1.2.2.2.2.2.1, keepG gg34 hH26.1.2.2.2.2.2.2.1, keepG gg34 hH26.1.2.2.2.2.2.2.2⟩, hH26.2.trans gg34⟩ (fun hH33 => ?_)
      have hzwc32 := hH26.2.size
      clear hK K
      (try simp only [Act.put, List.setIfInBounds_toArray, List.set_cons_zero, List.set_cons_succ])
      have N1_36 := N1_30.gr gg34
      clear N1_30
      have N2_37 := N2_31.gr gg34
      clear N2_31
      have bS_38 := keepO gg34 bS_28
      clear bS_28
      refine wpAnyH_ready (rs := [7]) (by kernel_rfl) (by simp) ?_
      refine AllReadyH.cons (o := ({ dst := none, op := Op.store 40 (Operand.tmp 15) (Operand.tmp 52), type := 0, pos := "outright.go:24", after := #[{ on := 6, ground := Ground.data }, { on := 5, ground := Ground.data }, { on := 5, ground := Ground.chain }, { on := 0, ground := Ground.phase }, { on := 1, ground := Ground.phase }, { on := 2, ground := Ground.phase }, { on := 3, ground := Ground.phase }, { on := 4, ground := Ground.phase }, { on := 5, ground := Ground.phase }, { on := 6, ground := Ground.phase }], guard := none } : Oper)) rfl (fun K hK => ?_) AllReadyH.nil
      obtain ⟨⟨t0', t1', t2'⟩, u0', u1', u2'⟩ := outN bS_38
      go_simp
      refine hK.out _ _ ⟨⟨set3_far (Nat.ne_of_gt (Nat.lt_of_lt_of_le hpA lS29)) hH33.1.1, set3_far (Nat.ne_of_gt (Nat.lt_of_lt_of_le hpA lS29)) hH33.1.2.1, set3_far (Nat.ne_of_gt (Nat.lt_of_lt_of_le hpA lS29)) hH33.1.2.2.1, set3_far (Nat.ne_of_gt (Nat.lt_of_lt_of_le hpB lS29)) hH33.1.2.2.2.1, set3_far (Nat.ne_of_gt (Nat.lt_of_lt_of_le hpB lS29)) hH33.1.2.2.2.2.1, set3_far (Nat.ne_of_gt (Nat.lt_of_lt_of_le hpB lS29)) hH33.1.2.2.2.2.2.1, set3_far (Nat.ne_of_gt (Nat.lt_of_lt_of_le hpC lS29)) hH33.1.2.2.2.2.2.2.1, set3_far (Nat.ne_of_gt (Nat.lt_of_lt_of_le hpC lS29)) hH33.1.2.2.2.2.2.2.2⟩, (((hH33.2.setCell (p := ⟨_, 0, none⟩) lS29 _).setCell (p := ⟨_, 1, none⟩) lS29 _).setCell (p := ⟨_, 2, none⟩) lS29 _)⟩ (fun hS39 => ?_)
      clear hK K t0' t1' t2' u0' u1' u2'
      (try simp only [Act.put, List.setIfInBounds_toArray, List.set_cons_zero, List.set_cons_succ])
      refine wpAnyH_done (by kernel_rfl) ?_ _
      exact ⟨_, _, _, _, _, _, _, s3, a3, n3, c3, e3, rfl, put3_block bS_38 _ _ _, N3_35.set bS_38 _ _ _, lS29, hS39.2⟩
    refine AllReadyH.cons (o := ({ dst := some 15, op := Op.alloc 40, type := 0, pos := "outright.go:24", after := #[], guard := none } : Oper)) rfl (fun K hK => ?_) AllReadyH.nil
    go_simp
    refine hK.out _ _ ⟨⟨keepG ((Gr.refl wc1).alloc (.cells #[.bool false, .slice none 0 0, .int .i64 0] 40)) hH2.1.1, keepG ((Gr.refl wc1).alloc (.cells #[.bool false, .slice none 0 0, .int .i64 0] 40)) hH2.1.2.1, keepG ((Gr.refl wc1).alloc (.cells #[.bool false, .slice none 0 0, .int .i64 0] 40)) hH2.1.2.2.1, keepG ((Gr.refl wc1).alloc (.cells #[.bool false, .slice none 0 0, .int .i64 0] 40)) hH2.1.2.2.2.1, keepG ((Gr.refl wc1).alloc (.cells #[.bool false, .slice none 0 0, .int .i64 0] 40)) hH2.1.2.2.2.2.1, keepG ((Gr.refl wc1).alloc (.cells #[.bool false, .slice none 0 0, .int .i64 0] 40)) hH2.1.2.2.2.2.2.1, keepG ((Gr.refl wc1).alloc (.cells #[.bool false, .slice none 0 0, .int .i64 0] 40)) hH2.1.2.2.2.2.2.2.1, keepG ((Gr.refl wc1).alloc (.cells #[.bool false, .slice none 0 0, .int .i64 0] 40)) hH2.1.2.2.2.2.2.2.2⟩, hH2.2.trans ((Gr.refl wc1).alloc (.cells #[.bool false, .slice none 0 0, .int .i64 0] 40))⟩ (fun hH41 => ?_)
    clear hK K
    (try simp only [Act.put, List.setIfInBounds_toArray, List.set_cons_zero, List.set_cons_succ])
    have bS_43 := blk1 wc1 (.cells #[.bool false, .slice none 0 0, .int .i64 0] 40)
    have gg42 := (Gr.refl wc1).alloc (.cells #[.bool false, .slice none 0 0, .int .i64 0] 40)
    have lS44 := hH2.2.size
    have N1_45 := N1_4.gr gg42
    clear N1_4
    generalize wc1.alloc (.cells #[.bool false, .slice none 0 0, .int .i64 0] 40) = wa40 at *
    refine wpAnyH_ready (rs := [4]) (by kernel_rfl) (by simp) ?_
    refine AllReadyH.cons (o := ({ dst := some 51, op := Op.call { callee := Callee.value (Operand.func 23), args := #[Operand.tmp 48, Operand.tmp 50], argTypes := #[40, 40] }, type := 40, pos := "outright.go:24", after := #[{ on := 1, ground := Ground.data }, { on := 3, ground := Ground.data }, { on := 3, ground := Ground.chain }], guard := none } : Oper)) rfl (fun K hK => ?_) AllReadyH.nil
    go_simp
    with_reducible refine (X2.out _ _ _ _ _ _ hH41.2 N1_45).mono ?_
    rintro r wc46 ⟨⟨s2, a2, n2, c2, e2, rfl, N2_49⟩, gg48⟩
    refine hK.out _ _ ⟨⟨keepG gg48 hH41.1.1, keepG gg48 hH41.1.2.1, keepG gg48 hH41.1.2.2.1, keepG gg48 hH41.1.2.2.2.1, keepG gg48 hH41.1.2.2.2.2.1, keepG gg48 hH41.1.2.2.2.2.2.1, keepG gg48 hH41.1.2.2.2.2.2.2.1, keepG gg48 hH41.1.2.2.2.2.2.2.2⟩, hH41.2.trans gg48⟩ (fun hH47 => ?_)
    have hzwc46 := hH41.2.size
    clear hK K
    (try simp only [Act.put, List.setIfInBounds_toArray, List.set_cons_zero, List.set_cons_succ])
    have N1_50 := N1_45.gr gg48
    clear N1_45
    have bS_51 := keepO gg48 bS_43
    clear bS_43
    refine wpAnyH_ready (rs := [5]) (by kernel_rfl) (by simp) ?_
    refine AllReadyH.cons (o := ({ dst := some 52, op := Op.call { callee := Callee.value (Operand.func 22), args := #[Operand.tmp 47, Operand.tmp 51], argTypes := #[40, 40] }, type := 40, pos := "outright.go:24", after := #[{ on := 0, ground := Ground.data }, { on := 4, ground := Ground.data }, { on := 4, ground := Ground.chain }], guard := none } : Oper)) rfl (fun K hK => ?_) AllReadyH.nil
    go_simp
    with_reducible refine (X3.out _ _ _ _ _ _ hH47.2 N2_49).mono ?_
    rintro r wc52 ⟨⟨s3, a3, n3, c3, e3, rfl, N3_55⟩, gg54⟩
    refine hK.out _ _ ⟨⟨keepG gg54 hH47.1.1, keepG gg54 hH47.1.2.1, keepG gg54 hH47.1.2.2.1, keepG gg54 hH47.1.2.2.2.1, keepG gg54 hH47.1.2.2.2.2.1, keepG gg54 hH47.1.2.2.2.2.2.1, keepG gg54 hH47.1.2.2.2.2.2.2.1, keepG gg54 hH47.1.2.2.2.2.2.2.2⟩, hH47.2.trans gg54⟩ (fun hH53 => ?_)
    have hzwc52 := hH47.2.size
    clear hK K
    (try simp only [Act.put, List.setIfInBounds_toArray, List.set_cons_zero, List.set_cons_succ])
    have N1_56 := N1_50.gr gg54
    clear N1_50
    have bS_57 := keepO gg54 bS_51
    clear bS_51
    have N2_58 := N2_49.gr gg54
    clear N2_49
    refine wpAnyH_ready (rs := [7]) (by kernel_rfl) (by simp) ?_
    refine AllReadyH.cons (o := ({ dst := none, op := Op.store 40 (Operand.tmp 15) (Operand.tmp 52), type := 0, pos := "outright.go:24", after := #[{ on := 6, ground := Ground.data }, { on := 5, ground := Ground.data }, { on := 5, ground := Ground.chain }, { on := 0, ground := Ground.phase }, { on := 1, ground := Ground.phase }, { on := 2, ground := Ground.phase }, { on := 3, ground := Ground.phase }, { on := 4, ground := Ground.phase }, { on := 5, ground := Ground.phase }, { on := 6, ground := Ground.phase }], guard := none } : Oper)) rfl (fun K hK => ?_) AllReadyH.nil
    obtain ⟨⟨t0', t1', t2'⟩, u0', u1', u2'⟩ := outN bS_57
    go_simp
    refine hK.out _ _ ⟨⟨set3_far (Nat.ne_of_gt (Nat.lt_of_lt_of_le hpA lS44)) hH53.1.1, set3_far (Nat.ne_of_gt (Nat.lt_of_lt_of_le hpA lS44)) hH53.1.2.1, set3_far (Nat.ne_of_gt (Nat.lt_of_lt_of_le hpA lS44)) hH53.1.2.2.1, set3_far (Nat.ne_of_gt (Nat.lt_of_lt_of_le hpB lS44)) hH53.1.2.2.2.1, set3_far (Nat.ne_of_gt (Nat.lt_of_lt_of_le hpB lS44)) hH53.1.2.2.2.2.1, set3_far (Nat.ne_of_gt (Nat.lt_of_lt_of_le hpB lS44)) hH53.1.2.2.2.2.2.1, set3_far (Nat.ne_of_gt (Nat.lt_of_lt_of_le hpC lS44)) hH53.1.2.2.2.2.2.2.1, set3_far (Nat.ne_of_gt (Nat.lt_of_lt_of_le hpC lS44)) hH53.1.2.2.2.2.2.2.2⟩, (((hH53.2.setCell (p := ⟨_, 0, none⟩) lS44 _).setCell (p := ⟨_, 1, none⟩) lS44 _).setCell (p := ⟨_, 2, none⟩) lS44 _)⟩ (fun hS59 => ?_)
    clear hK K t0' t1' t2' u0' u1' u2'
    (try simp only [Act.put, List.setIfInBounds_toArray, List.set_cons_zero, List.set_cons_succ])
    refine wpAnyH_done (by kernel_rfl) ?_ _
    exact ⟨_, _, _, _, _, _, _, s3, a3, n3, c3, e3, rfl, put3_block bS_57 _ _ _, N3_55.set bS_57 _ _ _, lS44, hS59.2⟩
  refine AllReadyH.cons (o := ({ dst := some 15, op := Op.alloc 40, type := 0, pos := "outright.go:24", after := #[], guard := none } : Oper)) rfl (fun K hK => ?_) AllReadyH.nil
  go_simp
  refine hK.out _ _ ⟨⟨keepG ((Gr.refl wd).alloc (.cells #[.bool false, .slice none 0 0, .int .i64 0] 40)) hHeld.1.1, keepG ((Gr.refl wd).alloc (.cells #[.bool false, .slice none 0 0, .int .i64 0] 40)) hHeld.1.2.1, keepG ((Gr.refl wd).alloc (.cells #[.bool false, .slice none 0 0, .int .i64 0] 40)) hHeld.1.2.2.1, keepG ((Gr.refl wd).alloc (.cells #[.bool false, .slice none 0 0, .int .i64 0] 40)) hHeld.1.2.2.2.1, keepG ((Gr.refl wd).alloc (.cells #[.bool false, .slice none 0 0, .int .i64 0] 40)) hHeld.1.2.2.2.2.1, keepG ((Gr.refl wd).alloc (.cells #[.bool false, .slice none 0 0, .int .i64 0] 40)) hHeld.1.2.2.2.2.2.1, keepG ((Gr.refl wd).alloc (.cells #[.bool false, .slice none 0 0, .int .i64 0] 40)) hHeld.1.2.2.2.2.2.2.1, keepG ((Gr.refl wd).alloc (.cells #[.bool false, .slice none 0 0, .int .i64 0] 40)) hHeld.1.2.2.2.2.2.2.2⟩, hHeld.2.trans ((Gr.refl wd).alloc (.cells #[.bool false, .slice none 0 0, .int .i64 0] 40))⟩ (fun hH61 => ?_)
  clear hK K
  (try simp only [Act.put, List.setIfInBounds_toArray, List.set_cons_zero, List.set_cons_succ])
  have bS_63 := blk1 wd (.cells #[.bool false, .slice none 0 0, .int .i64 0] 40)
  have gg62 := (Gr.refl wd).alloc (.cells #[.bool false, .slice none 0 0, .int .i64 0] 40)
  have lS64 := hHeld.2.size
  generalize wd.alloc (.cells #[.bool false, .slice none 0 0, .int .i64 0] 40) = wa60 at *
  refine wpAnyH_ready (rs := [3]) (by kernel_rfl) (by simp) ?_
  refine AllReadyH.cons (o := ({ dst := some 50, op := Op.call { callee := Callee.value (Operand.func 21), args := #[Operand.tmp 49], argTypes := #[24] }, type := 40, pos := "outright.go:24", after := #[{ on := 2, ground := Ground.data }], guard := none } : Oper)) rfl (fun K hK => ?_) AllReadyH.nil
  go_simp
  with_reducible refine (X1.out _ hH61.2).mono ?_
  rintro r wc65 ⟨⟨s1, a1, n1, c1, e1, rfl, N1_68⟩, gg67⟩
  refine hK.out _ _ ⟨⟨keepG gg67 hH61.1.1, keepG gg67 hH61.1.2.1, keepG gg67 hH61.1.2.2.1, keepG gg67 hH61.1.2.2.2.1, keepG gg67 hH61.1.2.2.2.2.1, keepG gg67 hH61.1.2.2.2.2.2.1, keepG gg67 hH61.1.2.2.2.2.2.2.1, keepG gg67 hH61.1.2.2.2.2.2.2.2⟩, hH61.2.trans gg67⟩ (fun hH66 => ?_)
  have hzwc65 := hH61.2.size
  clear hK K
  (try simp only [Act.put, List.setIfInBounds_toArray, List.set_cons_zero, List.set_cons_succ])
  have bS_69 := keepO gg67 bS_63
  clear bS_63
  refine wpAnyH_ready (rs := [4]) (by kernel_rfl) (by simp) ?_
  refine AllReadyH.cons (o := ({ dst := some 51, op := Op.call { callee := Callee.value (Operand.func 23), args := #[Operand.tmp 48, Operand.tmp 50], argTypes := #[40, 40] }, type := 40, pos := "outright.go:24", after := #[{ on := 1, ground := Ground.data }, { on := 3, ground := Ground.data }, { on := 3, ground := Ground.chain }], guard := none } : Oper)) rfl (fun K hK => ?_) AllReadyH.nil
  go_simp
  with_reducible refine (X2.out _ _ _ _ _ _ hH66.2 N1_68).mono ?_
  rintro r wc70 ⟨⟨s2, a2, n2, c2, e2, rfl, N2_73⟩, gg72⟩
  refine hK.out _ _ ⟨⟨keepG gg72 hH66.1.1, keepG gg72 hH66.1.2.1, keepG gg72 hH66.1.2.2.1, keepG gg72 hH66.1.2.2.2.1, keepG gg72 hH66.1.2.2.2.2.1, keepG gg72 hH66.1.2.2.2.2.2.1, keepG gg72 hH66.1.2.2.2.2.2.2.1, keepG gg72 hH66.1.2.2.2.2.2.2.2⟩, hH66.2.trans gg72⟩ (fun hH71 => ?_)
  have hzwc70 := hH66.2.size
  clear hK K
  (try simp only [Act.put, List.setIfInBounds_toArray, List.set_cons_zero, List.set_cons_succ])
  have bS_74 := keepO gg72 bS_69
  clear bS_69
  have N1_75 := N1_68.gr gg72
  clear N1_68
  refine wpAnyH_ready (rs := [5]) (by kernel_rfl) (by simp) ?_
  refine AllReadyH.cons (o := ({ dst := some 52, op := Op.call { callee := Callee.value (Operand.func 22), args := #[Operand.tmp 47, Operand.tmp 51], argTypes := #[40, 40] }, type := 40, pos := "outright.go:24", after := #[{ on := 0, ground := Ground.data }, { on := 4, ground := Ground.data }, { on := 4, ground := Ground.chain }], guard := none } : Oper)) rfl (fun K hK => ?_) AllReadyH.nil
  go_simp
  with_reducible refine (X3.out _ _ _ _ _ _ hH71.2 N2_73).mono ?_
  rintro r wc76 ⟨⟨s3, a3, n3, c3, e3, rfl, N3_79⟩, gg78⟩
  refine hK.out _ _ ⟨⟨keepG gg78 hH71.1.1, keepG gg78 hH71.1.2.1, keepG gg78 hH71.1.2.2.1, keepG gg78 hH71.1.2.2.2.1, keepG gg78 hH71.1.2.2.2.2.1, keepG gg78 hH71.1.2.2.2.2.2.1, keepG gg78 hH71.1.2.2.2.2.2.2.1, keepG gg78 hH71.1.2.2.2.2.2.2.2⟩, hH71.2.trans gg78⟩ (fun hH77 => ?_)
  have hzwc76 := hH71.2.size
  clear hK K
  (try simp only [Act.put, List.setIfInBounds_toArray, List.set_cons_zero, List.set_cons_succ])
  have bS_80 := keepO gg78 bS_74
  clear bS_74
  have N1_81 := N1_75.gr gg78
  clear N1_75
  have N2_82 := N2_73.gr gg78
  clear N2_73
  refine wpAnyH_ready (rs := [7]) (by kernel_rfl) (by simp) ?_
  refine AllReadyH.cons (o := ({ dst := none, op := Op.store 40 (Operand.tmp 15) (Operand.tmp 52), type := 0, pos := "outright.go:24", after := #[{ on := 6, ground := Ground.data }, { on := 5, ground := Ground.data }, { on := 5, ground := Ground.chain }, { on := 0, ground := Ground.phase }, { on := 1, ground := Ground.phase }, { on := 2, ground := Ground.phase }, { on := 3, ground := Ground.phase }, { on := 4, ground := Ground.phase }, { on := 5, ground := Ground.phase }, { on := 6, ground := Ground.phase }], guard := none } : Oper)) rfl (fun K hK => ?_) AllReadyH.nil
  obtain ⟨⟨t0', t1', t2'⟩, u0', u1', u2'⟩ := outN bS_80
  go_simp
  refine hK.out _ _ ⟨⟨set3_far (Nat.ne_of_gt (Nat.lt_of_lt_of_le hpA lS64)) hH77.1.1, set3_far (Nat.ne_of_gt (Nat.lt_of_lt_of_le hpA lS64)) hH77.1.2.1, set3_far (Nat.ne_of_gt (Nat.lt_of_lt_of_le hpA lS64)) hH77.1.2.2.1, set3_far (Nat.ne_of_gt (Nat.lt_of_lt_of_le hpB lS64)) hH77.1.2.2.2.1, set3_far (Nat.ne_of_gt (Nat.lt_of_lt_of_le hpB lS64)) hH77.1.2.2.2.2.1, set3_far (Nat.ne_of_gt (Nat.lt_of_lt_of_le hpB lS64)) hH77.1.2.2.2.2.2.1, set3_far (Nat.ne_of_gt (Nat.lt_of_lt_of_le hpC lS64)) hH77.1.2.2.2.2.2.2.1, set3_far (Nat.ne_of_gt (Nat.lt_of_lt_of_le hpC lS64)) hH77.1.2.2.2.2.2.2.2⟩, (((hH77.2.setCell (p := ⟨_, 0, none⟩) lS64 _).setCell (p := ⟨_, 1, none⟩) lS64 _).setCell (p := ⟨_, 2, none⟩) lS64 _)⟩ (fun hS83 => ?_)
  clear hK K t0' t1' t2' u0' u1' u2'
  (try simp only [Act.put, List.setIfInBounds_toArray, List.set_cons_zero, List.set_cons_succ])
  refine wpAnyH_done (by kernel_rfl) ?_ _
  exact ⟨_, _, _, _, _, _, _, s3, a3, n3, c3, e3, rfl, put3_block bS_80 _ _ _, N3_79.set bS_80 _ _ _, lS64, hS83.2⟩
def RSt10 (t0 t1 t2 t3 t4 t5 t6 t7 t8 t10 t11 t12 t15 t16 t17 t18 t19 t20 t21 t22 t23 t24 t25 t26 t27 t28 t29 t30 t31 t32 t33 t34 t35 t36 t37 t38 t39 t40 t41 t42 t43 t44 t45 t46 t47 t48 t49 t50 t51 t52 t53 t54 t55 t56 t57 t58 t59 t60 t61 t62 t63 t64 t65 t66 t67 t68 t69 t70 t71 t72 t73 t74 t75 t76 t77 t78 t79 t80 t81 t82 t83 t84 t85 t86 t87 : Value) (pA nA cA pB nB cB pC nC cC : Nat) (sA sB sC : Bool) (aA aB aC : Option Addr) (eA eB : Int) (VC V2 V : Int) (MC M2 M : Nat) (wq : World) : Exit → Act → World → Prop
  | .normal, a, w => ∃ u53 u54 u55 u56 u57 u58 bS s a9 n9 c9 e, a = { tmps := #[t0, t1, t2, t3, t4, t5, t6, t7, t8, .pointer (some ⟨pC, 0, none⟩), t10, t11, t12, .pointer (some ⟨pA, 0, none⟩), .pointer (some ⟨pB, 0, none⟩), t15, .pointer (some ⟨bS, 0, none⟩), t17, t18, t19, t20, t21, t22, t23, t24, t25, t26, t27, t28, t29, t30, t31, t32, t33, t34, t35, t36, t37, t38, t39, t40, t41, t42, t43, t44, t45, t46, t47, t48, t49, t50, t51, t52, u53, u54, u55, u56, u57, u58, t59, t60, t61, t62, t63, t64, t65, t66, t67, t68, t69, t70, t71, t72, t73, t74, t75, t76, t77, t78, t79, t80, t81, t82, t83, t84, t85, t86, t87], defers := [] } ∧ w.heap[bS]? = some (.cells #[.bool s, .slice a9 n9 c9, .int .i64 e] 40) ∧ Nz w s a9 n9 c9 e V M ∧ wq.heap.size ≤ bS ∧ Gr wq w
  | _, _, _ => False
set_option maxRecDepth 100000 in
set_option maxHeartbeats 20000000 in
theorem regSt10 (t0 t1 t2 t3 t4 t5 t6 t7 t8 t10 t11 t12 t15 t16 t17 t18 t19 t20 t21 t22 t23 t24 t25 t26 t27 t28 t29 t30 t31 t32 t33 t34 t35 t36 t37 t38 t39 t40 t41 t42 t43 t44 t45 t46 t47 t48 t49 t50 t51 t52 t53 t54 t55 t56 t57 t58 t59 t60 t61 t62 t63 t64 t65 t66 t67 t68 t69 t70 t71 t72 t73 t74 t75 t76 t77 t78 t79 t80 t81 t82 t83 t84 t85 t86 t87 : Value) (pA nA cA pB nB cB pC nC cC : Nat) (sA sB sC : Bool) (aA aB aC : Option Addr) (eA eB : Int) (VC V2 V : Int) (MC M2 M : Nat) (wq : World)
    (X1 : Hid (∀ w1, Gr wq w1 → Calls Tryz.prog 21 #[.agg #[.bool sC, .slice aC nC cC]] w1 fun r w' => NzA w' r VC MC ∧ Gr w1 w'))
    (X2 : Hid (∀ w1 s a n c e, Gr wq w1 → Nz w1 s a n c e VC MC → Calls Tryz.prog 23 #[.agg #[.bool sB, .slice aB nB cB, .int .i64 eB], .agg #[.bool s, .slice a n c, .int .i64 e]] w1 fun r w' => NzA w' r V2 M2 ∧ Gr w1 w'))
    (X3 : Hid (∀ w1 s a n c e, Gr wq w1 → Nz w1 s a n c e V2 M2 → Calls Tryz.prog 22 #[.agg #[.bool sA, .slice aA nA cA, .int .i64 eA], .agg #[.bool s, .slice a n c, .int .i64 e]] w1 fun r w' => NzA w' r V M ∧ Gr w1 w')) (hpA : pA < wq.heap.size) (hpB : pB < wq.heap.size) (hpC : pC < wq.heap.size) (hcs : (wq.cell? ⟨pA, 0, none⟩ = some (.bool sA) ∧ wq.cell? ⟨pA, 1, none⟩ = some (.slice aA nA cA) ∧ wq.cell? ⟨pA, 2, none⟩ = some (.int .i64 eA) ∧ wq.cell? ⟨pB, 0, none⟩ = some (.bool sB) ∧ wq.cell? ⟨pB, 1, none⟩ = some (.slice aB nB cB) ∧ wq.cell? ⟨pB, 2, none⟩ = some (.int .i64 eB) ∧ wq.cell? ⟨pC, 0, none⟩ = some (.bool sC) ∧ wq.cell? ⟨pC, 1, none⟩ = some (.slice aC nC cC))) :
    Code.wp Tryz.prog (Code.region 10 #[{ dst := some 53, op := Op.load 40 (Operand.tmp 13), type := 40, pos := "outright.go:25", after := #[], guard := none }, { dst := some 54, op := Op.load 40 (Operand.tmp 14), type := 40, pos := "outright.go:25", after := #[], guard := none }, { dst := some 55, op := Op.load 24 (Operand.tmp 9), type := 24, pos := "outright.go:25", after := #[], guard := none }, { dst := some 56, op := Op.call { callee := Callee.value (Operand.func 21), args := #[Operand.tmp 55], argTypes := #[24] }, type := 40, pos := "outright.go:25", after := #[{ on := 2, ground := Ground.data }], guard := none }, { dst := some 57, op := Op.call { callee := Callee.value (Operand.func 23), args := #[Operand.tmp 54, Operand.tmp 56], argTypes := #[40, 40] }, type := 40, pos := "outright.go:25", after := #[{ on := 1, ground := Ground.data }, { on := 3, ground := Ground.data }, { on := 3, ground := Ground.chain }], guard := none }, { dst := some 58, op := Op.call { callee := Callee.value (Operand.func 22), args := #[Operand.tmp 53, Operand.tmp 57], argTypes := #[40, 40] }, type := 40, pos := "outright.go:25", after := #[{ on := 0, ground := Ground.data }, { on := 4, ground := Ground.data }, { on := 4, ground := Ground.chain }], guard := none }, { dst := some 16, op := Op.alloc 40, type := 0, pos := "outright.go:25", after := #[], guard := none }, { dst := none, op := Op.store 40 (Operand.tmp 16) (Operand.tmp 58), type := 0, pos := "outright.go:25", after := #[{ on := 6, ground := Ground.data }, { on := 5, ground := Ground.data }, { on := 5, ground := Ground.chain }, { on := 0, ground := Ground.phase }, { on := 1, ground := Ground.phase }, { on := 2, ground := Ground.phase }, { on := 3, ground := Ground.phase }, { on := 4, ground := Ground.phase }, { on := 5, ground := Ground.phase }, { on := 6, ground := Ground.phase }], guard := none }] true) (RSt10 t0 t1 t2 t3 t4 t5 t6 t7 t8 t10 t11 t12 t15 t16 t17 t18 t19 t20 t21 t22 t23 t24 t25 t26 t27 t28 t29 t30 t31 t32 t33 t34 t35 t36 t37 t38 t39 t40 t41 t42 t43 t44 t45 t46 t47 t48 t49 t50 t51 t52 t53 t54 t55 t56 t57 t58 t59 t60 t61 t62 t63 t64 t65 t66 t67 t68 t69 t70 t71 t72 t73 t74 t75 t76 t77 t78 t79 t80 t81 t82 t83 t84 t85 t86 t87 pA nA cA pB nB cB pC nC cC sA sB sC aA aB aC eA eB VC V2 V MC M2 M wq) { tmps := #[t0, t1, t2, t3, t4, t5, t6, t7, t8, .pointer (some ⟨pC, 0, none⟩), t10, t11, t12, .pointer (some ⟨pA, 0, none⟩), .pointer (some ⟨pB, 0, none⟩), t15, t16, t17, t18, t19, t20, t21, t22, t23, t24, t25, t26, t27, t28, t29, t30, t31, t32, t33, t34, t35, t36, t37, t38, t39, t40, t41, t42, t43, t44, t45, t46, t47, t48, t49, t50, t51, t52, t53, t54, t55, t56, t57, t58, t59, t60, t61, t62, t63, t64, t65, t66, t67, t68, t69, t70, t71, t72, t73, t74, t75, t76, t77, t78, t79, t80, t81, t82, t83, t84, t85, t86, t87], defers := [] } wq := by
  have hS0 : (wq.drew.cell? ⟨pA, 0, none⟩ = some (.bool sA) ∧ wq.drew.cell? ⟨pA, 1, none⟩ = some (.slice aA nA cA) ∧ wq.drew.cell? ⟨pA, 2, none⟩ = some (.int .i64 eA) ∧ wq.drew.cell? ⟨pB, 0, none⟩ = some (.bool sB) ∧ wq.drew.cell? ⟨pB, 1, none⟩ = some (.slice aB nB cB) ∧ wq.drew.cell? ⟨pB, 2, none⟩ = some (.int .i64 eB) ∧ wq.drew.cell? ⟨pC, 0, none⟩ = some (.bool sC) ∧ wq.drew.cell? ⟨pC, 1, none⟩ = some (.slice aC nC cC)) ∧ Gr wq wq.drew := ⟨hcs, (Gr.refl wq).drew⟩
  clear hcs
  refine wp_region_held_drew (S := fun w' => (w'.cell? ⟨pA, 0, none⟩ = some (.bool sA) ∧ w'.cell? ⟨pA, 1, none⟩ = some (.slice aA nA cA) ∧ w'.cell? ⟨pA, 2, none⟩ = some (.int .i64 eA) ∧ w'.cell? ⟨pB, 0, none⟩ = some (.bool sB) ∧ w'.cell? ⟨pB, 1, none⟩ = some (.slice aB nB cB) ∧ w'.cell? ⟨pB, 2, none⟩ = some (.int .i64 eB) ∧ w'.cell? ⟨pC, 0, none⟩ = some (.bool sC) ∧ w'.cell? ⟨pC, 1, none⟩ = some (.slice aC nC cC)) ∧ Gr wq w') (by kernel_rfl) hS0 (fun hHeld => ?_)
  clear hS0
  generalize wq.drew = wd at *
  refine wpAnyH_take (i := 0) (oi := ({ dst := some 53, op := Op.load 40 (Operand.tmp 13), type := 40, pos := "outright.go:25", after := #[], guard := none } : Oper)) (v := ?_) rfl (by kernel_rfl) (by kernel_rfl) (by kernel_rfl) (fun _ _ _ h => h) (Or.inl ⟨by rfl, ?_⟩) (by with_reducible assumption) ?_
  rotate_left
  · intro w hSw
    (try dsimp only at hSw)
    first | (go_simp; done) | (go_simp; with_reducible rfl)
  (try simp only [Act.put, List.setIfInBounds_toArray, List.set_cons_zero, List.set_cons_succ])
  refine wpAnyH_take (i := 1) (oi := ({ dst := some 54, op := Op.load 40 (Operand.tmp 14), type := 40, pos := "outright.go:25", after := #[], guard := none } : Oper)) (v := ?_) rfl (by kernel_rfl) (by kernel_rfl) (by kernel_rfl) (fun _ _ _ h => h) (Or.inl ⟨by rfl, ?_⟩) (by with_reducible assumption) ?_
  rotate_left
  · intro w hSw
    (try dsimp only at hSw)
    first | (go_simp; done) | (go_simp; with_reducible rfl)
  (try simp only [Act.put, List.setIfInBounds_toArray, List.set_cons_zero, List.set_cons_succ])
  refine wpAnyH_take (i := 2) (oi := ({ dst := some 55, op := Op.load 24 (Operand.tmp 9), type := 24, pos := "outright.go:25", after := #[], guard := none } : Oper)) (v := ?_) rfl (by kernel_rfl) (by kernel_rfl) (by kernel_rfl) (fun _ _ _ h => h) (Or.inl ⟨by rfl, ?_⟩) (by with_reducible assumption) ?_
  rotate_left
  · intro w hSw
    (try dsimp only at hSw)
    first | (go_simp; done) | (go_simp; with_reducible rfl)
  (try simp only [Act.put, List.setIfInBounds_toArray, List.set_cons_zero, List.set_cons_succ])
  refine wpAnyH_ready (rs := [3, 6]) (by kernel_rfl) (by simp) ?_
  refine AllReadyH.cons (o := ({ dst := some 56, op := Op.call { callee := Callee.value (Operand.func 21), args := #[Operand.tmp 55], argTypes := #[24] }, type := 40, pos := "outright.go:25", after := #[{ on := 2, ground := Ground.data }], guard := none } : Oper)) rfl (fun K hK => ?_) ?_
  · go_simp
    with_reducible refine (X1.out _ hHeld.2).mono ?_
    rintro r wc1 ⟨⟨s1, a1, n1, c1, e1, rfl, N1_4⟩, gg3⟩
    refine hK.out _ _ ⟨⟨keepG gg3 hHeld.1.1, keepG gg3 hHeld.1.2.1, keepG gg3 hHeld.1.2.2.1, keepG gg3 hHeld.1.2.2.2.1, keepG gg3 hHeld.1.2.2.2.2.1, keepG gg3 hHeld.1.2.2.2.2.2.1, keepG gg3 hHeld.1.2.2.2.2.2.2.1, keepG gg3 hHeld.1.2.2.2.2.2.2.2⟩, hHeld.2.trans gg3⟩ (fun hH2 => ?_)
    have hzwc1 := hHeld.2.size
    clear hK K
    (try simp only [Act.put, List.setIfInBounds_toArray, List.set_cons_zero, List.set_cons_succ])
    refine wpAnyH_ready (rs := [4, 6]) (by kernel_rfl) (by simp) ?_
    refine AllReadyH.cons (o := ({ dst := some 57, op := Op.call { callee := Callee.value (Operand.func 23), args := #[Operand.tmp 54, Operand.tmp 56], argTypes := #[40, 40] }, type := 40, pos := "outright.go:25", after := #[{ on := 1, ground := Ground.data }, { on := 3, ground := Ground.data }, { on := 3, ground := Ground.chain }], guard := none } : Oper)) rfl (fun K hK => ?_) ?_
    · go_simp
      with_reducible refine (X2.out _ _ _ _ _ _ hH2.2 N1_4).mono ?_
      rintro r wc5 ⟨⟨s2, a2, n2, c2, e2, rfl, N2_8⟩, gg7⟩
      refine hK.out _ _ ⟨⟨keepG gg7 hH2.1.1, keepG gg7 hH2.1.2.1, keepG gg7 hH2.1.2.2.1, keepG gg7 hH2.1.2.2.2.1, keepG gg7 hH2.1.2.2.2.2.1, keepG gg7 hH2.1.2.2.2.2.2.1, keepG gg7 hH2.1.2.2.2.2.2.2.1, keepG gg7 hH2.1.2.2.2.2.2.2.2⟩, hH2.2.trans gg7⟩ (fun hH6 => ?_)
      have hzwc5 := hH2.2.size
      clear hK K
      (try simp only [Act.put, List.setIfInBounds_toArray, List.set_cons_zero, List.set_cons_succ])
      have N1_9 := N1_4.gr gg7
      clear N1_4
      refine wpAnyH_ready (rs := [5, 6]) (by kernel_rfl) (by simp) ?_
      refine AllReadyH.cons (o := ({ dst := some 58, op := Op.call { callee := Callee.value (Operand.func 22), args := #[Operand.tmp 53, Operand.tmp 57], argTypes := #[40, 40] }, type := 40, pos := "outright.go:25", after := #[{ on := 0, ground := Ground.data }, { on := 4, ground := Ground.data }, { on := 4, ground := Ground.chain }], guard := none } : Oper)) rfl (fun K hK => ?_) ?_
      · go_simp
        with_reducible refine (X3.out _ _ _ _ _ _ hH6.2 N2_8).mono ?_
        rintro r wc10 ⟨⟨s3, a3, n3, c3, e3, rfl, N3_13⟩, gg12⟩
        refine hK.out _ _ ⟨⟨keepG gg12 hH6.1.1, keepG gg12 hH6.1.2.1, keepG gg12 hH6.1.2.2.1, keepG gg12 hH6.1.2.2.2.1, keepG gg12 hH6.1.2.2.2.2.1, keepG gg12 hH6.1.2.2.2.2.2.1, keepG gg12 hH6.1.2.2.2.2.2.2.1, keepG gg12 hH6.1.2.2.2.2.2.2.2⟩, hH6.2.trans gg12⟩ (fun hH11 => ?_)
        have hzwc10 := hH6.2.size
        clear hK K
        (try simp only [Act.put, List.setIfInBounds_toArray, List.set_cons_zero, List.set_cons_succ])
        have N1_14 := N1_9.gr gg12
        clear N1_9
        have N2_15 := N2_8.gr gg12
        clear N2_8
        refine wpAnyH_ready (rs := [6]) (by kernel_rfl) (by simp) ?_
        refine AllReadyH.cons (o := ({ dst := some 16, op := Op.alloc 40, type := 0, pos := "outright.go:25", after := #[], guard := none } : Oper)) rfl (fun K hK => ?_) AllReadyH.nil
        go_simp
        refine hK.out _ _ ⟨⟨keepG ((Gr.refl wc10).alloc (.cells #[.bool false, .slice none 0 0, .int .i64 0] 40)) hH11.1.1, keepG ((Gr.refl wc10).alloc (.cells #[.bool false, .slice none 0 0, .int .i64 0] 40)) hH11.1.2.1, keepG ((Gr.refl wc10).alloc (.cells #[.bool false, .slice none 0 0, .int .i64 0] 40)) hH11.1.2.2.1, keepG ((Gr.refl wc10).alloc (.cells #[.bool false, .slice none 0 0, .int .i64 0] 40)) hH11.1.2.2.2.1, keepG ((Gr.refl wc10).alloc (.cells #[.bool false, .slice none 0 0, .int .i64 0] 40)) hH11.1.2.2.2.2.1, keepG ((Gr.refl wc10).alloc (.cells #[.bool false, .slice none 0 0, .int .i64 0] 40)) hH11.1.2.2.2.2.2.1, keepG ((Gr.refl wc10).alloc (.cells #[.bool false, .slice none 0 0, .int .i64 0] 40)) hH11.1.2.2.2.2.2.2.1, keepG ((Gr.refl wc10).alloc (.cells #[.bool false, .slice none 0 0, .int .i64 0] 40)) hH11.1.2.2.2.2.2.2.2⟩, hH11.2.trans ((Gr.refl wc10).alloc (.cells #[.bool false, .slice none 0 0, .int .i64 0] 40))⟩ (fun hH17 => ?_)
        clear hK K
        (try simp only [Act.put, List.setIfInBounds_toArray, List.set_cons_zero, List.set_cons_succ])
        have bS_19 := blk1 wc10 (.cells #[.bool false, .slice none 0 0, .int .i64 0] 40)
        have gg18 := (Gr.refl wc10).alloc (.cells #[.bool false, .slice none 0 0, .int .i64 0] 40)
        have lS20 := hH11.2.size
        have N1_21 := N1_14.gr gg18
        clear N1_14
        have N2_22 := N2_15.gr gg18
        clear N2_15
        have N3_23 := N3_13.gr gg18
        clear N3_13
        generalize wc10.alloc (.cells #[.bool false, .slice none 0 0, .int .i64 0] 40) = wa16 at *
        refine wpAnyH_ready (rs := [7]) (by kernel_rfl) (by simp) ?_
        refine AllReadyH.cons (o := ({ dst := none, op := Op.store 40 (Operand.tmp 16) (Operand.tmp 58), type := 0, pos := "outright.go:25", after := #[{ on := 6, ground := Ground.data }, { on := 5, ground := Ground.data }, { on := 5, ground := Ground.chain }, { on := 0, ground := Ground.phase }, { on := 1, ground := Ground.phase }, { on := 2, ground := Ground.phase }, { on := 3, ground := Ground.phase }, { on := 4, ground := Ground.phase }, { on := 5, ground := Ground.phase }, { on := 6, ground := Ground.phase }], guard := none } : Oper)) rfl (fun K hK => ?_) AllReadyH.nil
        obtain ⟨⟨t0', t1', t2'⟩, u0', u1', u2'⟩ := outN bS_19
        go_simp
        refine hK.out _ _ ⟨⟨set3_far (Nat.ne_of_gt (Nat.lt_of_lt_of_le hpA lS20)) hH17.1.1, set3_far (Nat.ne_of_gt (Nat.lt_of_lt_of_le hpA lS20)) hH17.1.2.1, set3_far (Nat.ne_of_gt (Nat.lt_of_lt_of_le hpA lS20)) hH17.1.2.2.1, set3_far (Nat.ne_of_gt (Nat.lt_of_lt_of_le hpB lS20)) hH17.1.2.2.2.1, set3_far (Nat.ne_of_gt (Nat.lt_of_lt_of_le hpB lS20)) hH17.1.2.2.2.2.1, set3_far (Nat.ne_of_gt (Nat.lt_of_lt_of_le hpB lS20)) hH17.1.2.2.2.2.2.1, set3_far (Nat.ne_of_gt (Nat.lt_of_lt_of_le hpC lS20)) hH17.1.2.2.2.2.2.2.1, set3_far (Nat.ne_of_gt (Nat.lt_of_lt_of_le hpC lS20)) hH17.1.2.2.2.2.2.2.2⟩, (((hH17.2.setCell (p := ⟨_, 0, none⟩) lS20 _).setCell (p := ⟨_, 1, none⟩) lS20 _).setCell (p := ⟨_, 2, none⟩) lS20 _)⟩ (fun hS24 => ?_)
        clear hK K t0' t1' t2' u0' u1' u2'
        (try simp only [Act.put, List.setIfInBounds_toArray, List.set_cons_zero, List.set_cons_succ])
        refine wpAnyH_done (by kernel_rfl) ?_ _
        exact ⟨_, _, _, _, _, _, _, s3, a3, n3, c3, e3, rfl, put3_block bS_19 _ _ _, N3_23.set bS_19 _ _ _, lS20, hS24.2⟩
      refine AllReadyH.cons (o := ({ dst := some 16, op := Op.alloc 40, type := 0, pos := "outright.go:25", after := #[], guard := none } : Oper)) rfl (fun K hK => ?_) AllReadyH.nil
      go_simp
      refine hK.out _ _ ⟨⟨keepG ((Gr.refl wc5).alloc (.cells #[.bool false, .slice none 0 0, .int .i64 0] 40)) hH6.1.1, keepG ((Gr.refl wc5).alloc (.cells #[.bool false, .slice none 0 0, .int .i64 0] 40)) hH6.1.2.1, keepG ((Gr.refl wc5).alloc (.cells #[.bool false, .slice none 0 0, .int .i64 0] 40)) hH6.1.2.2.1, keepG ((Gr.refl wc5).alloc (.cells #[.bool false, .slice none 0 0, .int .i64 0] 40)) hH6.1.2.2.2.1, keepG ((Gr.refl wc5).alloc (.cells #[.bool false, .slice none 0 0, .int .i64 0] 40)) hH6.1.2.2.2.2.1, keepG ((Gr.refl wc5).alloc (.cells #[.bool false, .slice none 0 0, .int .i64 0] 40)) hH6.1.2.2.2.2.2.1, keepG ((Gr.refl wc5).alloc (.cells #[.bool false, .slice none 0 0, .int .i64 0] 40)) hH6.1.2.2.2.2.2.2.1, keepG ((Gr.refl wc5).alloc (.cells #[.bool false, .slice none 0 0, .int .i64 0] 40)) hH6.1.2.2.2.2.2.2.2⟩, hH6.2.trans ((Gr.refl wc5).alloc (.cells #[.bool false, .slice none 0 0, .int .i64 0] 40))⟩ (fun hH26 => ?_)
      clear hK K
      (try simp only [Act.put, List.setIfInBounds_toArray, List.set_cons_zero, List.set_cons_succ])
      have bS_28 := blk1 wc5 (.cells #[.bool false, .slice none 0 0, .int .i64 0] 40)
      have gg27 := (Gr.refl wc5).alloc (.cells #[.bool false, .slice none 0 0, .int .i64 0] 40)
      have lS29 := hH6.2.size
      have N1_30 := N1_9.gr gg27
      clear N1_9
      have N2_31 := N2_8.gr gg27
      clear N2_8
      generalize wc5.alloc (.cells #[.bool false, .slice none 0 0, .int .i64 0] 40) = wa25 at *
      refine wpAnyH_ready (rs := [5]) (by kernel_rfl) (by simp) ?_
      refine AllReadyH.cons (o := ({ dst := some 58, op := Op.call { callee := Callee.value (Operand.func 22), args := #[Operand.tmp 53, Operand.tmp 57], argTypes := #[40, 40] }, type := 40, pos := "outright.go:25", after := #[{ on := 0, ground := Ground.data }, { on := 4, ground := Ground.data }, { on := 4, ground := Ground.chain }], guard := none } : Oper)) rfl (fun K hK => ?_) AllReadyH.nil
      go_simp
      with_reducible refine (X3.out _ _ _ _ _ _ hH26.2 N2_31).mono ?_
      rintro r wc32 ⟨⟨s3, a3, n3, c3, e3, rfl, N3_35⟩, gg34⟩
      refine hK.out _ _ ⟨⟨keepG gg34 hH26.1.1, keepG gg34 hH26.1.2.1, keepG gg34 hH26.1.2.2.1, keepG gg34 hH26.1.2.2.2.1, keepG gg34 hH26.1.2.2.2.2.1, keepG gg34 hH26.1.2.2.2.2.2.1, keepG gg34 hH26.1.2.2.2.2.2.2.1, keepG gg34 hH26.1.2.2.2.2.2.2.2⟩, hH26.2.trans gg34⟩ (fun hH33 => ?_)
      have hzwc32 := hH26.2.size
      clear hK K
      (try simp only [Act.put, List.setIfInBounds_toArray, List.set_cons_zero, List.set_cons_succ])
      have N1_36 := N1_30.gr gg34
      clear N1_30
      have N2_37 := N2_31.gr gg34
      clear N2_31
      have bS_38 := keepO gg34 bS_28
      clear bS_28
      refine wpAnyH_ready (rs := [7]) (by kernel_rfl) (by simp) ?_
      refine AllReadyH.cons (o := ({ dst := none, op := Op.store 40 (Operand.tmp 16) (Operand.tmp 58), type := 0, pos := "outright.go:25", after := #[{ on := 6, ground := Ground.data }, { on := 5, ground := Ground.data }, { on := 5, ground := Ground.chain }, { on := 0, ground := Ground.phase }, { on := 1, ground := Ground.phase }, { on := 2, ground := Ground.phase }, { on := 3, ground := Ground.phase }, { on := 4, ground := Ground.phase }, { on := 5, ground := Ground.phase }, { on := 6, ground := Ground.phase }], guard := none } : Oper)) rfl (fun K hK => ?_) AllReadyH.nil
      obtain ⟨⟨t0', t1', t2'⟩, u0', u1', u2'⟩ := outN bS_38
      go_simp
      refine hK.out _ _ ⟨⟨set3_far (Nat.ne_of_gt (Nat.lt_of_lt_of_le hpA lS29)) hH33.1.1, set3_far (Nat.ne_of_gt (Nat.lt_of_lt_of_le hpA lS29)) hH33.1.2.1, set3_far (Nat.ne_of_gt (Nat.lt_of_lt_of_le hpA lS29)) hH33.1.2.2.1, set3_far (Nat.ne_of_gt (Nat.lt_of_lt_of_le hpB lS29)) hH33.1.2.2.2.1, set3_far (Nat.ne_of_gt (Nat.lt_of_lt_of_le hpB lS29)) hH33.1.2.2.2.2.1, set3_far (Nat.ne_of_gt (Nat.lt_of_lt_of_le hpB lS29)) hH33.1.2.2.2.2.2.1, set3_far (Nat.ne_of_gt (Nat.lt_of_lt_of_le hpC lS29)) hH33.1.2.2.2.2.2.2.1, set3_far (Nat.ne_of_gt (Nat.lt_of_lt_of_le hpC lS29)) hH33.1.2.2.2.2.2.2.2⟩, (((hH33.2.setCell (p := ⟨_, 0, none⟩) lS29 _).setCell (p := ⟨_, 1, none⟩) lS29 _).setCell (p := ⟨_, 2, none⟩) lS29 _)⟩ (fun hS39 => ?_)
      clear hK K t0' t1' t2' u0' u1' u2'
      (try simp only [Act.put, List.setIfInBounds_toArray, List.set_cons_zero, List.set_cons_succ])
      refine wpAnyH_done (by kernel_rfl) ?_ _
      exact ⟨_, _, _, _, _, _, _, s3, a3, n3, c3, e3, rfl, put3_block bS_38 _ _ _, N3_35.set bS_38 _ _ _, lS29, hS39.2⟩
    refine AllReadyH.cons (o := ({ dst := some 16, op := Op.alloc 40, type := 0, pos := "outright.go:25", after := #[], guard := none } : Oper)) rfl (fun K hK => ?_) AllReadyH.nil
    go_simp
    refine hK.out _ _ ⟨⟨keepG ((Gr.refl wc1).alloc (.cells #[.bool false, .slice none 0 0, .int .i64 0] 40)) hH2.1.1, keepG ((Gr.refl wc1).alloc (.cells #[.bool false, .slice none 0 0, .int .i64 0] 40)) hH2.1.2.1, keepG ((Gr.refl wc1).alloc (.cells #[.bool false, .slice none 0 0, .int .i64 0] 40)) hH2.1.2.2.1, keepG ((Gr.refl wc1).alloc (.cells #[.bool false, .slice none 0 0, .int .i64 0] 40)) hH2.1.2.2.2.1, keepG ((Gr.refl wc1).alloc (.cells #[.bool false, .slice none 0 0, .int .i64 0] 40)) hH2.1.2.2.2.2.1, keepG ((Gr.refl wc1).alloc (.cells #[.bool false, .slice none 0 0, .int .i64 0] 40)) hH2.1.2.2.2.2.2.1, keepG ((Gr.refl wc1).alloc (.cells #[.bool false, .slice none 0 0, .int .i64 0] 40)) hH2.1.2.2.2.2.2.2.1, keepG ((Gr.refl wc1).alloc (.cells #[.bool false, .slice none 0 0, .int .i64 0] 40)) hH2.1.2.2.2.2.2.2.2⟩, hH2.2.trans ((Gr.refl wc1).alloc (.cells #[.bool false, .slice none 0 0, .int .i64 0] 40))⟩ (fun hH41 => ?_)
    clear hK K
    (try simp only [Act.put, List.setIfInBounds_toArray, List.set_cons_zero, List.set_cons_succ])
    have bS_43 := blk1 wc1 (.cells #[.bool false, .slice none 0 0, .int .i64 0] 40)
    have gg42 := (Gr.refl wc1).alloc (.cells #[.bool false, .slice none 0 0, .int .i64 0] 40)
    have lS44 := hH2.2.size
    have N1_45 := N1_4.gr gg42
    clear N1_4
    generalize wc1.alloc (.cells #[.bool false, .slice none 0 0, .int .i64 0] 40) = wa40 at *
    refine wpAnyH_ready (rs := [4]) (by kernel_rfl) (by simp) ?_
    refine AllReadyH.cons (o := ({ dst := some 57, op := Op.call { callee := Callee.value (Operand.func 23), args := #[Operand.tmp 54, Operand.tmp 56], argTypes := #[40, 40] }, type := 40, pos := "outright.go:25", after := #[{ on := 1, ground := Ground.data }, { on := 3, ground := Ground.data }, { on := 3, ground := Ground.chain }], guard := none } : Oper)) rfl (fun K hK => ?_) AllReadyH.nil
    go_simp
    with_reducible refine (X2.out _ _ _ _ _ _ hH41.2 N1_45).mono ?_
    rintro r wc46 ⟨⟨s2, a2, n2, c2, e2, rfl, N2_49⟩, gg48⟩
    refine hK.out _ _ ⟨⟨keepG gg48 hH41.1.1, keepG gg48 hH41.1.2.1, keepG gg48 hH41.1.2.2.1, keepG gg48 hH41.1.2.2.2.1, keepG gg48 hH41.1.2.2.2.2.1, keepG gg48 hH41.1.2.2.2.2.2.1, keepG gg48 hH41.1.2.2.2.2.2.2.1, keepG gg48 hH41.1.2.2.2.2.2.2.2⟩, hH41.2.trans gg48⟩ (fun hH47 => ?_)
    have hzwc46 := hH41.2.size
    clear hK K
    (try simp only [Act.put, List.setIfInBounds_toArray, List.set_cons_zero, List.set_cons_succ])
    have N1_50 := N1_45.gr gg48
    clear N1_45
    have bS_51 := keepO gg48 bS_43
    clear bS_43
    refine wpAnyH_ready (rs := [5]) (by kernel_rfl) (by simp) ?_
    refine AllReadyH.cons (o := ({ dst := some 58, op := Op.call { callee := Callee.value (Operand.func 22), args := #[Operand.tmp 53, Operand.tmp 57], argTypes := #[40, 40] }, type := 40, pos := "outright.go:25", after := #[{ on := 0, ground := Ground.data }, { on := 4, ground := Ground.data }, { on := 4, ground := Ground.chain }], guard := none } : Oper)) rfl (fun K hK => ?_) AllReadyH.nil
    go_simp
    with_reducible refine (X3.out _ _ _ _ _ _ hH47.2 N2_49).mono ?_
    rintro r wc52 ⟨⟨s3, a3, n3, c3, e3, rfl, N3_55⟩, gg54⟩
    refine hK.out _ _ ⟨⟨keepG gg54 hH47.1.1, keepG gg54 hH47.1.2.1, keepG gg54 hH47.1.2.2.1, keepG gg54 hH47.1.2.2.2.1, keepG gg54 hH47.1.2.2.2.2.1, keepG gg54 hH47.1.2.2.2.2.2.1, keepG gg54 hH47.1.2.2.2.2.2.2.1, keepG gg54 hH47.1.2.2.2.2.2.2.2⟩, hH47.2.trans gg54⟩ (fun hH53 => ?_)
    have hzwc52 := hH47.2.size
    clear hK K
    (try simp only [Act.put, List.setIfInBounds_toArray, List.set_cons_zero, List.set_cons_succ])
    have N1_56 := N1_50.gr gg54
    clear N1_50
    have bS_57 := keepO gg54 bS_51
    clear bS_51
    have N2_58 := N2_49.gr gg54
    clear N2_49
    refine wpAnyH_ready (rs := [7]) (by kernel_rfl) (by simp) ?_
    refine AllReadyH.cons (o := ({ dst := none, op := Op.store 40 (Operand.tmp 16) (Operand.tmp 58), type := 0, pos := "outright.go:25", after := #[{ on := 6, ground := Ground.data }, { on := 5, ground := Ground.data }, { on := 5, ground := Ground.chain }, { on := 0, ground := Ground.phase }, { on := 1, ground := Ground.phase }, { on := 2, ground := Ground.phase }, { on := 3, ground := Ground.phase }, { on := 4, ground := Ground.phase }, { on := 5, ground := Ground.phase }, { on := 6, ground := Ground.phase }], guard := none } : Oper)) rfl (fun K hK => ?_) AllReadyH.nil
    obtain ⟨⟨t0', t1', t2'⟩, u0', u1', u2'⟩ := outN bS_57
    go_simp
    refine hK.out _ _ ⟨⟨set3_far (Nat.ne_of_gt (Nat.lt_of_lt_of_le hpA lS44)) hH53.1.1, set3_far (Nat.ne_of_gt (Nat.lt_of_lt_of_le hpA lS44)) hH53.1.2.1, set3_far (Nat.ne_of_gt (Nat.lt_of_lt_of_le hpA lS44)) hH53.1.2.2.1, set3_far (Nat.ne_of_gt (Nat.lt_of_lt_of_le hpB lS44)) hH53.1.2.2.2.1, set3_far (Nat.ne_of_gt (Nat.lt_of_lt_of_le hpB lS44)) hH53.1.2.2.2.2.1, set3_far (Nat.ne_of_gt (Nat.lt_of_lt_of_le hpB lS44)) hH53.1.2.2.2.2.2.1, set3_far (Nat.ne_of_gt (Nat.lt_of_lt_of_le hpC lS44)) hH53.1.2.2.2.2.2.2.1, set3_far (Nat.ne_of_gt (Nat.lt_of_lt_of_le hpC lS44)) hH53.1.2.2.2.2.2.2.2⟩, (((hH53.2.setCell (p := ⟨_, 0, none⟩) lS44 _).setCell (p := ⟨_, 1, none⟩) lS44 _).setCell (p := ⟨_, 2, none⟩) lS44 _)⟩ (fun hS59 => ?_)
    clear hK K t0' t1' t2' u0' u1' u2'
    (try simp only [Act.put, List.setIfInBounds_toArray, List.set_cons_zero, List.set_cons_succ])
    refine wpAnyH_done (by kernel_rfl) ?_ _
    exact ⟨_, _, _, _, _, _, _, s3, a3, n3, c3, e3, rfl, put3_block bS_57 _ _ _, N3_55.set bS_57 _ _ _, lS44, hS59.2⟩
  refine AllReadyH.cons (o := ({ dst := some 16, op := Op.alloc 40, type := 0, pos := "outright.go:25", after := #[], guard := none } : Oper)) rfl (fun K hK => ?_) AllReadyH.nil
  go_simp
  refine hK.out _ _ ⟨⟨keepG ((Gr.refl wd).alloc (.cells #[.bool false, .slice none 0 0, .int .i64 0] 40)) hHeld.1.1, keepG ((Gr.refl wd).alloc (.cells #[.bool false, .slice none 0 0, .int .i64 0] 40)) hHeld.1.2.1, keepG ((Gr.refl wd).alloc (.cells #[.bool false, .slice none 0 0, .int .i64 0] 40)) hHeld.1.2.2.1, keepG ((Gr.refl wd).alloc (.cells #[.bool false, .slice none 0 0, .int .i64 0] 40)) hHeld.1.2.2.2.1, keepG ((Gr.refl wd).alloc (.cells #[.bool false, .slice none 0 0, .int .i64 0] 40)) hHeld.1.2.2.2.2.1, keepG ((Gr.refl wd).alloc (.cells #[.bool false, .slice none 0 0, .int .i64 0] 40)) hHeld.1.2.2.2.2.2.1, keepG ((Gr.refl wd).alloc (.cells #[.bool false, .slice none 0 0, .int .i64 0] 40)) hHeld.1.2.2.2.2.2.2.1, keepG ((Gr.refl wd).alloc (.cells #[.bool false, .slice none 0 0, .int .i64 0] 40)) hHeld.1.2.2.2.2.2.2.2⟩, hHeld.2.trans ((Gr.refl wd).alloc (.cells #[.bool false, .slice none 0 0, .int .i64 0] 40))⟩ (fun hH61 => ?_)
  clear hK K
  (try simp only [Act.put, List.setIfInBounds_toArray, List.set_cons_zero, List.set_cons_succ])
  have bS_63 := blk1 wd (.cells #[.bool false, .slice none 0 0, .int .i64 0] 40)
  have gg62 := (Gr.refl wd).alloc (.cells #[.bool false, .slice none 0 0, .int .i64 0] 40)
  have lS64 := hHeld.2.size
  generalize wd.alloc (.cells #[.bool false, .slice none 0 0, .int .i64 0] 40) = wa60 at *
  refine wpAnyH_ready (rs := [3]) (by kernel_rfl) (by simp) ?_
  refine AllReadyH.cons (o := ({ dst := some 56, op := Op.call { callee := Callee.value (Operand.func 21), args := #[Operand.tmp 55], argTypes := #[24] }, type := 40, pos := "outright.go:25", after := #[{ on := 2, ground := Ground.data }], guard := none } : Oper)) rfl (fun K hK => ?_) AllReadyH.nil
  go_simp
  with_reducible refine (X1.out _ hH61.2).mono ?_
  rintro r wc65 ⟨⟨s1, a1, n1, c1, e1, rfl, N1_68⟩, gg67⟩
  refine hK.out _ _ ⟨⟨keepG gg67 hH61.1.1, keepG gg67 hH61.1.2.1, keepG gg67 hH61.1.2.2.1, keepG gg67 hH61.1.2.2.2.1, keepG gg67 hH61.1.2.2.2.2.1, keepG gg67 hH61.1.2.2.2.2.2.1, keepG gg67 hH61.1.2.2.2.2.2.2.1, keepG gg67 hH61.1.2.2.2.2.2.2.2⟩, hH61.2.trans gg67⟩ (fun hH66 => ?_)
  have hzwc65 := hH61.2.size
  clear hK K
  (try simp only [Act.put, List.setIfInBounds_toArray, List.set_cons_zero, List.set_cons_succ])
  have bS_69 := keepO gg67 bS_63
  clear bS_63
  refine wpAnyH_ready (rs := [4]) (by kernel_rfl) (by simp) ?_
  refine AllReadyH.cons (o := ({ dst := some 57, op := Op.call { callee := Callee.value (Operand.func 23), args := #[Operand.tmp 54, Operand.tmp 56], argTypes := #[40, 40] }, type := 40, pos := "outright.go:25", after := #[{ on := 1, ground := Ground.data }, { on := 3, ground := Ground.data }, { on := 3, ground := Ground.chain }], guard := none } : Oper)) rfl (fun K hK => ?_) AllReadyH.nil
  go_simp
  with_reducible refine (X2.out _ _ _ _ _ _ hH66.2 N1_68).mono ?_
  rintro r wc70 ⟨⟨s2, a2, n2, c2, e2, rfl, N2_73⟩, gg72⟩
  refine hK.out _ _ ⟨⟨keepG gg72 hH66.1.1, keepG gg72 hH66.1.2.1, keepG gg72 hH66.1.2.2.1, keepG gg72 hH66.1.2.2.2.1, keepG gg72 hH66.1.2.2.2.2.1, keepG gg72 hH66.1.2.2.2.2.2.1, keepG gg72 hH66.1.2.2.2.2.2.2.1, keepG gg72 hH66.1.2.2.2.2.2.2.2⟩, hH66.2.trans gg72⟩ (fun hH71 => ?_)
  have hzwc70 := hH66.2.size
  clear hK K
  (try simp only [Act.put, List.setIfInBounds_toArray, List.set_cons_zero, List.set_cons_succ])
  have bS_74 := keepO gg72 bS_69
  clear bS_69
  have N1_75 := N1_68.gr gg72
  clear N1_68
  refine wpAnyH_ready (rs := [5]) (by kernel_rfl) (by simp) ?_
  refine AllReadyH.cons (o := ({ dst := some 58, op := Op.call { callee := Callee.value (Operand.func 22), args := #[Operand.tmp 53, Operand.tmp 57], argTypes := #[40, 40] }, type := 40, pos := "outright.go:25", after := #[{ on := 0, ground := Ground.data }, { on := 4, ground := Ground.data }, { on := 4, ground := Ground.chain }], guard := none } : Oper)) rfl (fun K hK => ?_) AllReadyH.nil
  go_simp
  with_reducible refine (X3.out _ _ _ _ _ _ hH71.2 N2_73).mono ?_
  rintro r wc76 ⟨⟨s3, a3, n3, c3, e3, rfl, N3_79⟩, gg78⟩
  refine hK.out _ _ ⟨⟨keepG gg78 hH71.1.1, keepG gg78 hH71.1.2.1, keepG gg78 hH71.1.2.2.1, keepG gg78 hH71.1.2.2.2.1, keepG gg78 hH71.1.2.2.2.2.1, keepG gg78 hH71.1.2.2.2.2.2.1, keepG gg78 hH71.1.2.2.2.2.2.2.1, keepG gg78 hH71.1.2.2.2.2.2.2.2⟩, hH71.2.trans gg78⟩ (fun hH77 => ?_)
  have hzwc76 := hH71.2.size
  clear hK K
  (try simp only [Act.put, List.setIfInBounds_toArray, List.set_cons_zero, List.set_cons_succ])
  have bS_80 := keepO gg78 bS_74
  clear bS_74
  have N1_81 := N1_75.gr gg78
  clear N1_75
  have N2_82 := N2_73.gr gg78
  clear N2_73
  refine wpAnyH_ready (rs := [7]) (by kernel_rfl) (by simp) ?_
  refine AllReadyH.cons (o := ({ dst := none, op := Op.store 40 (Operand.tmp 16) (Operand.tmp 58), type := 0, pos := "outright.go:25", after := #[{ on := 6, ground := Ground.data }, { on := 5, ground := Ground.data }, { on := 5, ground := Ground.chain }, { on := 0, ground := Ground.phase }, { on := 1, ground := Ground.phase }, { on := 2, ground := Ground.phase }, { on := 3, ground := Ground.phase }, { on := 4, ground := Ground.phase }, { on := 5, ground := Ground.phase }, { on := 6, ground := Ground.phase }], guard := none } : Oper)) rfl (fun K hK => ?_) AllReadyH.nil
  obtain ⟨⟨t0', t1', t2'⟩, u0', u1', u2'⟩ := outN bS_80
  go_simp
  refine hK.out _ _ ⟨⟨set3_far (Nat.ne_of_gt (Nat.lt_of_lt_of_le hpA lS64)) hH77.1.1, set3_far (Nat.ne_of_gt (Nat.lt_of_lt_of_le hpA lS64)) hH77.1.2.1, set3_far (Nat.ne_of_gt (Nat.lt_of_lt_of_le hpA lS64)) hH77.1.2.2.1, set3_far (Nat.ne_of_gt (Nat.lt_of_lt_of_le hpB lS64)) hH77.1.2.2.2.1, set3_far (Nat.ne_of_gt (Nat.lt_of_lt_of_le hpB lS64)) hH77.1.2.2.2.2.1, set3_far (Nat.ne_of_gt (Nat.lt_of_lt_of_le hpB lS64)) hH77.1.2.2.2.2.2.1, set3_far (Nat.ne_of_gt (Nat.lt_of_lt_of_le hpC lS64)) hH77.1.2.2.2.2.2.2.1, set3_far (Nat.ne_of_gt (Nat.lt_of_lt_of_le hpC lS64)) hH77.1.2.2.2.2.2.2.2⟩, (((hH77.2.setCell (p := ⟨_, 0, none⟩) lS64 _).setCell (p := ⟨_, 1, none⟩) lS64 _).setCell (p := ⟨_, 2, none⟩) lS64 _)⟩ (fun hS83 => ?_)
  clear hK K t0' t1' t2' u0' u1' u2'
  (try simp only [Act.put, List.setIfInBounds_toArray, List.set_cons_zero, List.set_cons_succ])
  refine wpAnyH_done (by kernel_rfl) ?_ _
  exact ⟨_, _, _, _, _, _, _, s3, a3, n3, c3, e3, rfl, put3_block bS_80 _ _ _, N3_79.set bS_80 _ _ _, lS64, hS83.2⟩
def RSt13 (t0 t1 t3 t4 t5 t6 t7 t8 t9 t10 t11 t12 t13 t15 t16 t19 t20 t21 t22 t23 t24 t25 t26 t27 t28 t29 t30 t31 t32 t33 t34 t35 t36 t37 t38 t39 t40 t41 t42 t43 t44 t45 t46 t47 t48 t49 t50 t51 t52 t53 t54 t55 t56 t57 t58 t59 t60 t61 t62 t63 t64 t65 t66 t67 t68 t69 t70 t71 t72 t73 t74 t75 t76 t77 t78 t79 t80 t81 t82 t83 t84 t85 t86 t87 : Value) (pA nA cA pB nB cB pC nC cC : Nat) (sA sB sC : Bool) (aA aB aC : Option Addr) (eA eB eC : Int) (b : Nat) (V1 V2 k1 k2 : Int) (M1 M2 : Nat) (wq : World) : Exit → Act → World → Prop
  | .normal, a, w => ∃ u65 u66 u67 u68 u69 u70 u71 u72 u73 u74 u75 u76 u77, a = { tmps := #[t0, t1, .int .i64 (b : Int), t3, t4, t5, t6, t7, t8, t9, t10, t11, t12, t13, .pointer (some ⟨pC, 0, none⟩), t15, t16, .pointer (some ⟨pB, 0, none⟩), .pointer (some ⟨pA, 0, none⟩), t19, t20, t21, t22, t23, t24, t25, t26, t27, t28, t29, t30, t31, t32, t33, t34, t35, t36, t37, t38, t39, t40, t41, t42, t43, t44, t45, t46, t47, t48, t49, t50, t51, t52, t53, t54, t55, t56, t57, t58, t59, t60, t61, t62, t63, t64, u65, u66, u67, u68, u69, u70, u71, u72, u73, u74, u75, u76, u77, .bool false, t79, t80, t81, t82, t83, t84, t85, t86, t87], defers := [] } ∧ Gr wq w
  | _, _, _ => False
set_option maxRecDepth 100000 in
set_option maxHeartbeats 20000000 in
theorem regSt13 (t0 t1 t3 t4 t5 t6 t7 t8 t9 t10 t11 t12 t13 t15 t16 t19 t20 t21 t22 t23 t24 t25 t26 t27 t28 t29 t30 t31 t32 t33 t34 t35 t36 t37 t38 t39 t40 t41 t42 t43 t44 t45 t46 t47 t48 t49 t50 t51 t52 t53 t54 t55 t56 t57 t58 t59 t60 t61 t62 t63 t64 t65 t66 t67 t68 t69 t70 t71 t72 t73 t74 t75 t76 t77 t78 t79 t80 t81 t82 t83 t84 t85 t86 t87 : Value) (pA nA cA pB nB cB pC nC cC : Nat) (sA sB sC : Bool) (aA aB aC : Option Addr) (eA eB eC : Int) (b : Nat) (V1 V2 k1 k2 : Int) (M1 M2 : Nat) (wq : World)
    (X1 : Hid (∀ w1, Gr wq w1 → Calls Tryz.prog 24 #[.agg #[.bool sA, .slice aA nA cA, .int .i64 eA], .agg #[.bool sB, .slice aB nB cB, .int .i64 eB]] w1 fun r w' => r = .returned (.int .i64 k1) ∧ Gr w1 w'))
    (X2 : Hid (∀ w1, Gr wq w1 → Calls Tryz.prog 19 #[.agg #[.bool sC, .slice aC nC cC, .int .i64 eC], .int .i64 (b : Int)] w1 fun r w' => NzA w' r V1 M1 ∧ Gr w1 w'))
    (X3 : Hid (∀ w1 s a n c e, Gr wq w1 → Nz w1 s a n c e V1 M1 → Calls Tryz.prog 25 #[.agg #[.bool sB, .slice aB nB cB, .int .i64 eB], .agg #[.bool s, .slice a n c, .int .i64 e]] w1 fun r w' => NzA w' r V2 M2 ∧ Gr w1 w'))
    (X4 : Hid (∀ w1 s a n c e, Gr wq w1 → Nz w1 s a n c e V2 M2 → Calls Tryz.prog 24 #[.agg #[.bool sA, .slice aA nA cA, .int .i64 eA], .agg #[.bool s, .slice a n c, .int .i64 e]] w1 fun r w' => r = .returned (.int .i64 k2) ∧ Gr w1 w'))
    (hk1 : ¬ k1 < 0) (hk2 : ¬ 0 ≤ k2) (hpA : pA < wq.heap.size) (hpB : pB < wq.heap.size) (hpC : pC < wq.heap.size) (hcs : (wq.cell? ⟨pA, 0, none⟩ = some (.bool sA) ∧ wq.cell? ⟨pA, 1, none⟩ = some (.slice aA nA cA) ∧ wq.cell? ⟨pA, 2, none⟩ = some (.int .i64 eA) ∧ wq.cell? ⟨pB, 0, none⟩ = some (.bool sB) ∧ wq.cell? ⟨pB, 1, none⟩ = some (.slice aB nB cB) ∧ wq.cell? ⟨pB, 2, none⟩ = some (.int .i64 eB) ∧ wq.cell? ⟨pC, 0, none⟩ = some (.bool sC) ∧ wq.cell? ⟨pC, 1, none⟩ = some (.slice aC nC cC) ∧ wq.cell? ⟨pC, 2, none⟩ = some (.int .i64 eC))) :
    Code.wp Tryz.prog (Code.region 13 #[{ dst := some 65, op := Op.load 40 (Operand.tmp 18), type := 40, pos := "outright.go:28", after := #[], guard := none }, { dst := some 66, op := Op.load 40 (Operand.tmp 17), type := 40, pos := "outright.go:28", after := #[], guard := none }, { dst := some 67, op := Op.call { callee := Callee.value (Operand.func 24), args := #[Operand.tmp 65, Operand.tmp 66], argTypes := #[40, 40] }, type := 3, pos := "outright.go:28", after := #[{ on := 0, ground := Ground.data }, { on := 1, ground := Ground.data }], guard := none }, { dst := some 68, op := Op.binOp BinOp.lss 3 (Operand.tmp 67) (Operand.const (Value.int IntKind.i64 0)) 3, type := 4, pos := "outright.go:28", after := #[{ on := 2, ground := Ground.data }], guard := none }, { dst := some 69, op := Op.move (Operand.tmp 68), type := 4, pos := "outright.go:28", after := #[{ on := 3, ground := Ground.data }, { on := 2, ground := Ground.chain }], guard := none }, { dst := some 70, op := Op.load 40 (Operand.tmp 18), type := 40, pos := "outright.go:28", after := #[{ on := 4, ground := Ground.guard }], guard := some (4, false) }, { dst := some 71, op := Op.load 40 (Operand.tmp 17), type := 40, pos := "outright.go:28", after := #[{ on := 4, ground := Ground.guard }], guard := some (4, false) }, { dst := some 72, op := Op.load 40 (Operand.tmp 14), type := 40, pos := "outright.go:28", after := #[{ on := 4, ground := Ground.guard }], guard := some (4, false) }, { dst := some 73, op := Op.move (Operand.tmp 2), type := 3, pos := "outright.go:28", after := #[{ on := 4, ground := Ground.guard }], guard := some (4, false) }, { dst := some 74, op := Op.call { callee := Callee.value (Operand.func 19), args := #[Operand.tmp 72, Operand.tmp 73], argTypes := #[40, 3] }, type := 40, pos := "outright.go:28", after := #[{ on := 7, ground := Ground.data }, { on := 8, ground := Ground.data }, { on := 4, ground := Ground.chain }, { on := 4, ground := Ground.guard }], guard := some (4, false) }, { dst := some 75, op := Op.call { callee := Callee.value (Operand.func 25), args := #[Operand.tmp 71, Operand.tmp 74], argTypes := #[40, 40] }, type := 40, pos := "outright.go:28", after := #[{ on := 6, ground := Ground.data }, { on := 9, ground := Ground.data }, { on := 9, ground := Ground.chain }, { on := 4, ground := Ground.guard }], guard := some (4, false) }, { dst := some 76, op := Op.call { callee := Callee.value (Operand.func 24), args := #[Operand.tmp 70, Operand.tmp 75], argTypes := #[40, 40] }, type := 3, pos := "outright.go:28", after := #[{ on := 5, ground := Ground.data }, { on := 10, ground := Ground.data }, { on := 10, ground := Ground.chain }, { on := 4, ground := Ground.guard }], guard := some (4, false) }, { dst := some 77, op := Op.binOp BinOp.geq 3 (Operand.tmp 76) (Operand.const (Value.int IntKind.i64 0)) 3, type := 4, pos := "outright.go:28", after := #[{ on := 11, ground := Ground.data }, { on := 4, ground := Ground.guard }], guard := some (4, false) }, { dst := some 78, op := Op.pick (Operand.tmp 69) (Operand.const (Value.bool true)) (Operand.tmp 77), type := 4, pos := "outright.go:28", after := #[{ on := 4, ground := Ground.data }, { on := 12, ground := Ground.data }], guard := none }] true) (RSt13 t0 t1 t3 t4 t5 t6 t7 t8 t9 t10 t11 t12 t13 t15 t16 t19 t20 t21 t22 t23 t24 t25 t26 t27 t28 t29 t30 t31 t32 t33 t34 t35 t36 t37 t38 t39 t40 t41 t42 t43 t44 t45 t46 t47 t48 t49 t50 t51 t52 t53 t54 t55 t56 t57 t58 t59 t60 t61 t62 t63 t64 t65 t66 t67 t68 t69 t70 t71 t72 t73 t74 t75 t76 t77 t78 t79 t80 t81 t82 t83 t84 t85 t86 t87 pA nA cA pB nB cB pC nC cC sA sB sC aA aB aC eA eB eC b V1 V2 k1 k2 M1 M2 wq) { tmps := #[t0, t1, .int .i64 (b : Int), t3, t4, t5, t6, t7, t8, t9, t10, t11, t12, t13, .pointer (some ⟨pC, 0, none⟩), t15, t16, .pointer (some ⟨pB, 0, none⟩), .pointer (some ⟨pA, 0, none⟩), t19, t20, t21, t22, t23, t24, t25, t26, t27, t28, t29, t30, t31, t32, t33, t34, t35, t36, t37, t38, t39, t40, t41, t42, t43, t44, t45, t46, t47, t48, t49, t50, t51, t52, t53, t54, t55, t56, t57, t58, t59, t60, t61, t62, t63, t64, t65, t66, t67, t68, t69, t70, t71, t72, t73, t74, t75, t76, t77, t78, t79, t80, t81, t82, t83, t84, t85, t86, t87], defers := [] } wq := by
  have hS0 : (wq.drew.cell? ⟨pA, 0, none⟩ = some (.bool sA) ∧ wq.drew.cell? ⟨pA, 1, none⟩ = some (.slice aA nA cA) ∧ wq.drew.cell? ⟨pA, 2, none⟩ = some (.int .i64 eA) ∧ wq.drew.cell? ⟨pB, 0, none⟩ = some (.bool sB) ∧ wq.drew.cell? ⟨pB, 1, none⟩ = some (.slice aB nB cB) ∧ wq.drew.cell? ⟨pB, 2, none⟩ = some (.int .i64 eB) ∧ wq.drew.cell? ⟨pC, 0, none⟩ = some (.bool sC) ∧ wq.drew.cell? ⟨pC, 1, none⟩ = some (.slice aC nC cC) ∧ wq.drew.cell? ⟨pC, 2, none⟩ = some (.int .i64 eC)) ∧ Gr wq wq.drew := ⟨hcs, (Gr.refl wq).drew⟩
  clear hcs
  refine wp_region_held_drew (S := fun w' => (w'.cell? ⟨pA, 0, none⟩ = some (.bool sA) ∧ w'.cell? ⟨pA, 1, none⟩ = some (.slice aA nA cA) ∧ w'.cell? ⟨pA, 2, none⟩ = some (.int .i64 eA) ∧ w'.cell? ⟨pB, 0, none⟩ = some (.bool sB) ∧ w'.cell? ⟨pB, 1, none⟩ = some (.slice aB nB cB) ∧ w'.cell? ⟨pB, 2, none⟩ = some (.int .i64 eB) ∧ w'.cell? ⟨pC, 0, none⟩ = some (.bool sC) ∧ w'.cell? ⟨pC, 1, none⟩ = some (.slice aC nC cC) ∧ w'.cell? ⟨pC, 2, none⟩ = some (.int .i64 eC)) ∧ Gr wq w') (by kernel_rfl) hS0 (fun hHeld => ?_)
  clear hS0
  generalize wq.drew = wd at *
  refine wpAnyH_take (i := 0) (oi := ({ dst := some 65, op := Op.load 40 (Operand.tmp 18), type := 40, pos := "outright.go:28", after := #[], guard := none } : Oper)) (v := ?_) rfl (by kernel_rfl) (by kernel_rfl) (by kernel_rfl) (fun _ _ _ h => h) (Or.inl ⟨by rfl, ?_⟩) (by with_reducible assumption) ?_
  rotate_left
  · intro w hSw
    (try dsimp only at hSw)
    first | (go_simp; done) | (go_simp; with_reducible rfl)
  (try simp only [Act.put, List.setIfInBounds_toArray, List.set_cons_zero, List.set_cons_succ])
  refine wpAnyH_take (i := 1) (oi := ({ dst := some 66, op := Op.load 40 (Operand.tmp 17), type := 40, pos := "outright.go:28", after := #[], guard := none } : Oper)) (v := ?_) rfl (by kernel_rfl) (by kernel_rfl) (by kernel_rfl) (fun _ _ _ h => h) (Or.inl ⟨by rfl, ?_⟩) (by with_reducible assumption) ?_
  rotate_left
  · intro w hSw
    (try dsimp only at hSw)
    first | (go_simp; done) | (go_simp; with_reducible rfl)
  (try simp only [Act.put, List.setIfInBounds_toArray, List.set_cons_zero, List.set_cons_succ])
  refine wpAnyH_ready (rs := [2]) (by kernel_rfl) (by simp) ?_
  refine AllReadyH.cons (o := ({ dst := some 67, op := Op.call { callee := Callee.value (Operand.func 24), args := #[Operand.tmp 65, Operand.tmp 66], argTypes := #[40, 40] }, type := 3, pos := "outright.go:28", after := #[{ on := 0, ground := Ground.data }, { on := 1, ground := Ground.data }], guard := none } : Oper)) rfl (fun K hK => ?_) AllReadyH.nil
  go_simp
  with_reducible refine (X1.out _ hHeld.2).mono ?_
  rintro r wc1 ⟨rfl, gg3⟩
  refine hK.out _ _ ⟨⟨keepG gg3 hHeld.1.1, keepG gg3 hHeld.1.2.1, keepG gg3 hHeld.1.2.2.1, keepG gg3 hHeld.1.2.2.2.1, keepG gg3 hHeld.1.2.2.2.2.1, keepG gg3 hHeld.1.2.2.2.2.2.1, keepG gg3 hHeld.1.2.2.2.2.2.2.1, keepG gg3 hHeld.1.2.2.2.2.2.2.2.1, keepG gg3 hHeld.1.2.2.2.2.2.2.2.2⟩, hHeld.2.trans gg3⟩ (fun hH2 => ?_)
  have hzwc1 := hHeld.2.size
  clear hK K
  (try simp only [Act.put, List.setIfInBounds_toArray, List.set_cons_zero, List.set_cons_succ])
  refine wpAnyH_take (i := 3) (oi := ({ dst := some 68, op := Op.binOp BinOp.lss 3 (Operand.tmp 67) (Operand.const (Value.int IntKind.i64 0)) 3, type := 4, pos := "outright.go:28", after := #[{ on := 2, ground := Ground.data }], guard := none } : Oper)) (v := ?_) rfl (by kernel_rfl) (by kernel_rfl) (by kernel_rfl) (fun _ _ _ h => h) (Or.inl ⟨by rfl, ?_⟩) (by with_reducible assumption) ?_
  rotate_left
  · intro w hSw
    (try dsimp only at hSw)
    first | (go_simp; done) | (go_simp; with_reducible rfl)
  (try simp only [Act.put, List.setIfInBounds_toArray, List.set_cons_zero, List.set_cons_succ])
  refine wpAnyH_take (i := 4) (oi := ({ dst := some 69, op := Op.move (Operand.tmp 68), type := 4, pos := "outright.go:28", after := #[{ on := 3, ground := Ground.data }, { on := 2, ground := Ground.chain }], guard := none } : Oper)) (v := ?_) rfl (by kernel_rfl) (by kernel_rfl) (by kernel_rfl) (fun _ _ _ h => h) (Or.inl ⟨by rfl, ?_⟩) (by with_reducible assumption) ?_
  rotate_left
  · intro w hSw
    (try dsimp only at hSw)
    first | (go_simp; done) | (go_simp; with_reducible rfl)
  (try simp only [Act.put, List.setIfInBounds_toArray, List.set_cons_zero, List.set_cons_succ])
  refine wpAnyH_take (i := 5) (oi := ({ dst := some 70, op := Op.load 40 (Operand.tmp 18), type := 40, pos := "outright.go:28", after := #[{ on := 4, ground := Ground.guard }], guard := some (4, false) } : Oper)) (v := ?_) rfl (by kernel_rfl) (by kernel_rfl) (by kernel_rfl) (fun _ _ _ h => h) (Or.inl ⟨by rfl, ?_⟩) (by with_reducible assumption) ?_
  rotate_left
  · intro w hSw
    (try dsimp only at hSw)
    first | (go_simp; done) | (go_simp; with_reducible rfl)
  (try simp only [Act.put, List.setIfInBounds_toArray, List.set_cons_zero, List.set_cons_succ])
  refine wpAnyH_take (i := 6) (oi := ({ dst := some 71, op := Op.load 40 (Operand.tmp 17), type := 40, pos := "outright.go:28", after := #[{ on := 4, ground := Ground.guard }], guard := some (4, false) } : Oper)) (v := ?_) rfl (by kernel_rfl) (by kernel_rfl) (by kernel_rfl) (fun _ _ _ h => h) (Or.inl ⟨by rfl, ?_⟩) (by with_reducible assumption) ?_
  rotate_left
  · intro w hSw
    (try dsimp only at hSw)
    first | (go_simp; done) | (go_simp; with_reducible rfl)
  (try simp only [Act.put, List.setIfInBounds_toArray, List.set_cons_zero, List.set_cons_succ])
  refine wpAnyH_take (i := 7) (oi := ({ dst := some 72, op := Op.load 40 (Operand.tmp 14), type := 40, pos := "outright.go:28", after := #[{ on := 4, ground := Ground.guard }], guard := some (4, false) } : Oper)) (v := ?_) rfl (by kernel_rfl) (by kernel_rfl) (by kernel_rfl) (fun _ _ _ h => h) (Or.inl ⟨by rfl, ?_⟩) (by with_reducible assumption) ?_
  rotate_left
  · intro w hSw
    (try dsimp only at hSw)
    first | (go_simp; done) | (go_simp; with_reducible rfl)
  (try simp only [Act.put, List.setIfInBounds_toArray, List.set_cons_zero, List.set_cons_succ])
  refine wpAnyH_take (i := 8) (oi := ({ dst := some 73, op := Op.move (Operand.tmp 2), type := 3, pos := "outright.go:28", after := #[{ on := 4, ground := Ground.guard }], guard := some (4, false) } : Oper)) (v := ?_) rfl (by kernel_rfl) (by kernel_rfl) (by kernel_rfl) (fun _ _ _ h => h) (Or.inl ⟨by rfl, ?_⟩) (by with_reducible assumption) ?_
  rotate_left
  · intro w hSw
    (try dsimp only at hSw)
    first | (go_simp; done) | (go_simp; with_reducible rfl)
  (try simp only [Act.put, List.setIfInBounds_toArray, List.set_cons_zero, List.set_cons_succ])
  refine wpAnyH_ready (rs := [9]) (by kernel_rfl) (by simp) ?_
  refine AllReadyH.cons (o := ({ dst := some 74, op := Op.call { callee := Callee.value (Operand.func 19), args := #[Operand.tmp 72, Operand.tmp 73], argTypes := #[40, 3] }, type := 40, pos := "outright.go:28", after := #[{ on := 7, ground := Ground.data }, { on := 8, ground := Ground.data }, { on := 4, ground := Ground.chain }, { on := 4, ground := Ground.guard }], guard := some (4, false) } : Oper)) rfl (fun K hK => ?_) AllReadyH.nil
  go_simp
  with_reducible refine (X2.out _ hH2.2).mono ?_
  rintro r wc4 ⟨⟨s1, a1, n1, c1, e1, rfl, N1_7⟩, gg6⟩
  refine hK.out _ _ ⟨⟨keepG gg6 hH2.1.1, keepG gg6 hH2.1.2.1, keepG gg6 hH2.1.2.2.1, keepG gg6 hH2.1.2.2.2.1, keepG gg6 hH2.1.2.2.2.2.1, keepG gg6 hH2.1.2.2.2.2.2.1, keepG gg6 hH2.1.2.2.2.2.2.2.1, keepG gg6 hH2.1.2.2.2.2.2.2.2.1, keepG gg6 hH2.1.2.2.2.2.2.2.2.2⟩, hH2.2.trans gg6⟩ (fun hH5 => ?_)
  have hzwc4 := hH2.2.size
  clear hK K
  (try simp only [Act.put, List.setIfInBounds_toArray, List.set_cons_zero, List.set_cons_succ])
  refine wpAnyH_ready (rs := [10]) (by kernel_rfl) (by simp) ?_
  refine AllReadyH.cons (o := ({ dst := some 75, op := Op.call { callee := Callee.value (Operand.func 25), args := #[Operand.tmp 71, Operand.tmp 74], argTypes := #[40, 40] }, type := 40, pos := "outright.go:28", after := #[{ on := 6, ground := Ground.data }, { on := 9, ground := Ground.data }, { on := 9, ground := Ground.chain }, { on := 4, ground := Ground.guard }], guard := some (4, false) } : Oper)) rfl (fun K hK => ?_) AllReadyH.nil
  go_simp
  with_reducible refine (X3.out _ _ _ _ _ _ hH5.2 N1_7).mono ?_
  rintro r wc8 ⟨⟨s2, a2, n2, c2, e2, rfl, N2_11⟩, gg10⟩
  refine hK.out _ _ ⟨⟨keepG gg10 hH5.1.1, keepG gg10 hH5.1.2.1, keepG gg10 hH5.1.2.2.1, keepG gg10 hH5.1.2.2.2.1, keepG gg10 hH5.1.2.2.2.2.1, keepG gg10 hH5.1.2.2.2.2.2.1, keepG gg10 hH5.1.2.2.2.2.2.2.1, keepG gg10 hH5.1.2.2.2.2.2.2.2.1, keepG gg10 hH5.1.2.2.2.2.2.2.2.2⟩, hH5.2.trans gg10⟩ (fun hH9 => ?_)
  have hzwc8 := hH5.2.size
  clear hK K
  (try simp only [Act.put, List.setIfInBounds_toArray, List.set_cons_zero, List.set_cons_succ])
  have N1_12 := N1_7.gr gg10
  clear N1_7
  refine wpAnyH_ready (rs := [11]) (by kernel_rfl) (by simp) ?_
  refine AllReadyH.cons (o := ({ dst := some 76, op := Op.call { callee := Callee.value (Operand.func 24), args := #[Operand.tmp 70, Operand.tmp 75], argTypes := #[40, 40] }, type := 3, pos := "outright.go:28", after := #[{ on := 5, ground := Ground.data }, { on := 10, ground := Ground.data }, { on := 10, ground := Ground.chain }, { on := 4, ground := Ground.guard }], guard := some (4, false) } : Oper)) rfl (fun K hK => ?_) AllReadyH.nil
  go_simp
  with_reducible refine (X4.out _ _ _ _ _ _ hH9.2 N2_11).mono ?_
  rintro r wc13 ⟨rfl, gg15⟩
  refine hK.out _ _ ⟨⟨keepG gg15 hH9.1.1, keepG gg15 hH9.1.2.1, keepG gg15 hH9.1.2.2.1, keepG gg15 hH9.1.2.2.2.1, keepG gg15 hH9.1.2.2.2.2.1, keepG gg15 hH9.1.2.2.2.2.2.1, keepG gg15 hH9.1.2.2.2.2.2.2.1, keepG gg15 hH9.1.2.2.2.2.2.2.2.1, keepG gg15 hH9.1.2.2.2.2.2.2.2.2⟩, hH9.2.trans gg15⟩ (fun hH14 => ?_)
  have hzwc13 := hH9.2.size
  clear hK K
  (try simp only [Act.put, List.setIfInBounds_toArray, List.set_cons_zero, List.set_cons_succ])
  have N1_16 := N1_12.gr gg15
  clear N1_12
  have N2_17 := N2_11.gr gg15
  clear N2_11
  refine wpAnyH_take (i := 12) (oi := ({ dst := some 77, op := Op.binOp BinOp.geq 3 (Operand.tmp 76) (Operand.const (Value.int IntKind.i64 0)) 3, type := 4, pos := "outright.go:28", after := #[{ on := 11, ground := Ground.data }, { on := 4, ground := Ground.guard }], guard := some (4, false) } : Oper)) (v := ?_) rfl (by kernel_rfl) (by kernel_rfl) (by kernel_rfl) (fun _ _ _ h => h) (Or.inl ⟨by rfl, ?_⟩) (by with_reducible assumption) ?_
  rotate_left
  · intro w hSw
    (try dsimp only at hSw)
    first | (go_simp; done) | (go_simp; with_reducible rfl)
  (try simp only [Act.put, List.setIfInBounds_toArray, List.set_cons_zero, List.set_cons_succ])
  refine wpAnyH_take (i := 13) (oi := ({ dst := some 78, op := Op.pick (Operand.tmp 69) (Operand.const (Value.bool true)) (Operand.tmp 77), type := 4, pos := "outright.go:28", after := #[{ on := 4, ground := Ground.data }, { on := 12, ground := Ground.data }], guard := none } : Oper)) (v := ?_) rfl (by kernel_rfl) (by kernel_rfl) (by kernel_rfl) (fun _ _ _ h => h) (Or.inl ⟨by rfl, ?_⟩) (by with_reducible assumption) ?_
  rotate_left
  · intro w hSw
    (try dsimp only at hSw)
    first | (go_simp; done) | (go_simp; with_reducible rfl)
  (try simp only [Act.put, List.setIfInBounds_toArray, List.set_cons_zero, List.set_cons_succ])
  refine wpAnyH_done (by kernel_rfl) ?_ _
  exact ⟨_, _, _, _, _, _, _, _, _, _, _, _, _, rfl, hH14.2⟩
def RSt15 (t0 t1 t2 t3 t4 t5 t6 t7 t8 t10 t12 t13 t14 t15 t16 t17 t18 t19 t20 t21 t22 t23 t24 t25 t26 t27 t28 t29 t30 t31 t32 t33 t34 t35 t36 t37 t38 t39 t40 t41 t42 t43 t44 t45 t46 t47 t48 t49 t50 t51 t52 t53 t54 t55 t56 t57 t58 t59 t60 t61 t62 t63 t64 t65 t66 t67 t68 t69 t70 t71 t72 t73 t74 t75 t76 t77 t78 t79 t80 t81 t82 t83 t84 t85 t86 t87 : Value) (pA nA cA pB nB cB : Nat) (sA sB : Bool) (aA aB : Option Addr) (V1 V2 k1 : Int) (M1 M2 : Nat) (wq : World) : Exit → Act → World → Prop
  | .normal, a, w => ∃ u79 u80 u81 u82 u83 u84 u85 u86 u87, a = { tmps := #[t0, t1, t2, t3, t4, t5, .bool true, t7, t8, .pointer (some ⟨pA, 0, none⟩), t10, .pointer (some ⟨pB, 0, none⟩), t12, t13, t14, t15, t16, t17, t18, t19, t20, t21, t22, t23, t24, t25, t26, t27, t28, t29, t30, t31, t32, t33, t34, t35, t36, t37, t38, t39, t40, t41, t42, t43, t44, t45, t46, t47, t48, t49, t50, t51, t52, t53, t54, t55, t56, t57, t58, t59, t60, t61, t62, t63, t64, t65, t66, t67, t68, t69, t70, t71, t72, t73, t74, t75, t76, t77, t78, u79, u80, u81, u82, u83, u84, u85, u86, u87], defers := [] } ∧ Gr wq w
  | _, _, _ => False
set_option maxRecDepth 100000 in
set_option maxHeartbeats 20000000 in
theorem regSt15 (t0 t1 t2 t3 t4 t5 t6 t7 t8 t10 t12 t13 t14 t15 t16 t17 t18 t19 t20 t21 t22 t23 t24 t25 t26 t27 t28 t29 t30 t31 t32 t33 t34 t35 t36 t37 t38 t39 t40 t41 t42 t43 t44 t45 t46 t47 t48 t49 t50 t51 t52 t53 t54 t55 t56 t57 t58 t59 t60 t61 t62 t63 t64 t65 t66 t67 t68 t69 t70 t71 t72 t73 t74 t75 t76 t77 t78 t79 t80 t81 t82 t83 t84 t85 t86 t87 : Value) (pA nA cA pB nB cB : Nat) (sA sB : Bool) (aA aB : Option Addr) (V1 V2 k1 : Int) (M1 M2 : Nat) (wq : World)
    (X1 : Hid (∀ w1, Gr wq w1 → Calls Tryz.prog 21 #[.agg #[.bool sA, .slice aA nA cA]] w1 fun r w' => NzA w' r V1 M1 ∧ Gr w1 w'))
    (X2 : Hid (∀ w1, Gr wq w1 → Calls Tryz.prog 21 #[.agg #[.bool sB, .slice aB nB cB]] w1 fun r w' => NzA w' r V2 M2 ∧ Gr w1 w'))
    (X3 : Hid (∀ w1 s a n c e s' a' n' c' e', Gr wq w1 → Nz w1 s a n c e V1 M1 → Nz w1 s' a' n' c' e' V2 M2 → Calls Tryz.prog 24 #[.agg #[.bool s, .slice a n c, .int .i64 e], .agg #[.bool s', .slice a' n' c', .int .i64 e']] w1 fun r w' => r = .returned (.int .i64 k1) ∧ Gr w1 w'))
    (X4 : Hid (∀ w1, Gr wq w1 → Calls Tryz.prog 8 #[] w1 fun r w' => r = .returned (.bool true) ∧ Gr w1 w'))
    (hk1 : k1 ≤ 0) (hpA : pA < wq.heap.size) (hpB : pB < wq.heap.size) (hcs : (wq.cell? ⟨pA, 0, none⟩ = some (.bool sA) ∧ wq.cell? ⟨pA, 1, none⟩ = some (.slice aA nA cA) ∧ wq.cell? ⟨pB, 0, none⟩ = some (.bool sB) ∧ wq.cell? ⟨pB, 1, none⟩ = some (.slice aB nB cB))) :
    Code.wp Tryz.prog (Code.region 15 #[{ dst := some 79, op := Op.load 24 (Operand.tmp 9), type := 24, pos := "outright.go:31", after := #[], guard := none }, { dst := some 80, op := Op.call { callee := Callee.value (Operand.func 21), args := #[Operand.tmp 79], argTypes := #[24] }, type := 40, pos := "outright.go:31", after := #[{ on := 0, ground := Ground.data }], guard := none }, { dst := some 81, op := Op.load 24 (Operand.tmp 11), type := 24, pos := "outright.go:31", after := #[], guard := none }, { dst := some 82, op := Op.call { callee := Callee.value (Operand.func 21), args := #[Operand.tmp 81], argTypes := #[24] }, type := 40, pos := "outright.go:31", after := #[{ on := 2, ground := Ground.data }, { on := 1, ground := Ground.chain }], guard := none }, { dst := some 83, op := Op.call { callee := Callee.value (Operand.func 24), args := #[Operand.tmp 80, Operand.tmp 82], argTypes := #[40, 40] }, type := 3, pos := "outright.go:31", after := #[{ on := 1, ground := Ground.data }, { on := 3, ground := Ground.data }, { on := 3, ground := Ground.chain }], guard := none }, { dst := some 84, op := Op.binOp BinOp.leq 3 (Operand.tmp 83) (Operand.const (Value.int IntKind.i64 0)) 3, type := 4, pos := "outright.go:31", after := #[{ on := 4, ground := Ground.data }], guard := none }, { dst := some 85, op := Op.move (Operand.tmp 84), type := 4, pos := "outright.go:31", after := #[{ on := 5, ground := Ground.data }, { on := 4, ground := Ground.chain }], guard := none }, { dst := some 86, op := Op.call { callee := Callee.value (Operand.func 8), args := #[], argTypes := #[] }, type := 4, pos := "outright.go:31", after := #[{ on := 6, ground := Ground.chain }, { on := 6, ground := Ground.guard }], guard := some (6, true) }, { dst := some 87, op := Op.pick (Operand.tmp 85) (Operand.tmp 86) (Operand.const (Value.bool false)), type := 4, pos := "outright.go:31", after := #[{ on := 6, ground := Ground.data }, { on := 7, ground := Ground.data }], guard := none }, { dst := some 6, op := Op.assign (Operand.tmp 87), type := 4, pos := "outright.go:31", after := #[{ on := 8, ground := Ground.data }, { on := 7, ground := Ground.chain }, { on := 0, ground := Ground.phase }, { on := 1, ground := Ground.phase }, { on := 2, ground := Ground.phase }, { on := 3, ground := Ground.phase }, { on := 4, ground := Ground.phase }, { on := 5, ground := Ground.phase }, { on := 6, ground := Ground.phase }, { on := 7, ground := Ground.phase }, { on := 8, ground := Ground.phase }], guard := none }] true) (RSt15 t0 t1 t2 t3 t4 t5 t6 t7 t8 t10 t12 t13 t14 t15 t16 t17 t18 t19 t20 t21 t22 t23 t24 t25 t26 t27 t28 t29 t30 t31 t32 t33 t34 t35 t36 t37 t38 t39 t40 t41 t42 t43 t44 t45 t46 t47 t48 t49 t50 t51 t52 t53 t54 t55 t56 t57 t58 t59 t60 t61 t62 t63 t64 t65 t66 t67 t68 t69 t70 t71 t72 t73 t74 t75 t76 t77 t78 t79 t80 t81 t82 t83 t84 t85 t86 t87 pA nA cA pB nB cB sA sB aA aB V1 V2 k1 M1 M2 wq) { tmps := #[t0, t1, t2, t3, t4, t5, t6, t7, t8, .pointer (some ⟨pA, 0, none⟩), t10, .pointer (some ⟨pB, 0, none⟩), t12, t13, t14, t15, t16, t17, t18, t19, t20, t21, t22, t23, t24, t25, t26, t27, t28, t29, t30, t31, t32, t33, t34, t35, t36, t37, t38, t39, t40, t41, t42, t43, t44, t45, t46, t47, t48, t49, t50, t51, t52, t53, t54, t55, t56, t57, t58, t59, t60, t61, t62, t63, t64, t65, t66, t67, t68, t69, t70, t71, t72, t73, t74, t75, t76, t77, t78, t79, t80, t81, t82, t83, t84, t85, t86, t87], defers := [] } wq := by
  have hS0 : (wq.drew.cell? ⟨pA, 0, none⟩ = some (.bool sA) ∧ wq.drew.cell? ⟨pA, 1, none⟩ = some (.slice aA nA cA) ∧ wq.drew.cell? ⟨pB, 0, none⟩ = some (.bool sB) ∧ wq.drew.cell? ⟨pB, 1, none⟩ = some (.slice aB nB cB)) ∧ Gr wq wq.drew := ⟨hcs, (Gr.refl wq).drew⟩
  clear hcs
  refine wp_region_held_drew (S := fun w' => (w'.cell? ⟨pA, 0, none⟩ = some (.bool sA) ∧ w'.cell? ⟨pA, 1, none⟩ = some (.slice aA nA cA) ∧ w'.cell? ⟨pB, 0, none⟩ = some (.bool sB) ∧ w'.cell? ⟨pB, 1, none⟩ = some (.slice aB nB cB)) ∧ Gr wq w') (by kernel_rfl) hS0 (fun hHeld => ?_)
  clear hS0
  generalize wq.drew = wd at *
  refine wpAnyH_take (i := 0) (oi := ({ dst := some 79, op := Op.load 24 (Operand.tmp 9), type := 24, pos := "outright.go:31", after := #[], guard := none } : Oper)) (v := ?_) rfl (by kernel_rfl) (by kernel_rfl) (by kernel_rfl) (fun _ _ _ h => h) (Or.inl ⟨by rfl, ?_⟩) (by with_reducible assumption) ?_
  rotate_left
  · intro w hSw
    (try dsimp only at hSw)
    first | (go_simp; done) | (go_simp; with_reducible rfl)
  (try simp only [Act.put, List.setIfInBounds_toArray, List.set_cons_zero, List.set_cons_succ])
  refine wpAnyH_take (i := 2) (oi := ({ dst := some 81, op := Op.load 24 (Operand.tmp 11), type := 24, pos := "outright.go:31", after := #[], guard := none } : Oper)) (v := ?_) rfl (by kernel_rfl) (by kernel_rfl) (by kernel_rfl) (fun _ _ _ h => h) (Or.inl ⟨by rfl, ?_⟩) (by with_reducible assumption) ?_
  rotate_left
  · intro w hSw
    (try dsimp only at hSw)
    first | (go_simp; done) | (go_simp; with_reducible rfl)
  (try simp only [Act.put, List.setIfInBounds_toArray, List.set_cons_zero, List.set_cons_succ])
  refine wpAnyH_ready (rs := [1]) (by kernel_rfl) (by simp) ?_
  refine AllReadyH.cons (o := ({ dst := some 80, op := Op.call { callee := Callee.value (Operand.func 21), args := #[Operand.tmp 79], argTypes := #[24] }, type := 40, pos := "outright.go:31", after := #[{ on := 0, ground := Ground.data }], guard := none } : Oper)) rfl (fun K hK => ?_) AllReadyH.nil
  go_simp
  with_reducible refine (X1.out _ hHeld.2).mono ?_
  rintro r wc1 ⟨⟨s1, a1, n1, c1, e1, rfl, N1_4⟩, gg3⟩
  refine hK.out _ _ ⟨⟨keepG gg3 hHeld.1.1, keepG gg3 hHeld.1.2.1, keepG gg3 hHeld.1.2.2.1, keepG gg3 hHeld.1.2.2.2⟩, hHeld.2.trans gg3⟩ (fun hH2 => ?_)
  have hzwc1 := hHeld.2.size
  clear hK K
  (try simp only [Act.put, List.setIfInBounds_toArray, List.set_cons_zero, List.set_cons_succ])
  refine wpAnyH_ready (rs := [3]) (by kernel_rfl) (by simp) ?_
  refine AllReadyH.cons (o := ({ dst := some 82, op := Op.call { callee := Callee.value (Operand.func 21), args := #[Operand.tmp 81], argTypes := #[24] }, type := 40, pos := "outright.go:31", after := #[{ on := 2, ground := Ground.data }, { on := 1, ground := Ground.chain }], guard := none } : Oper)) rfl (fun K hK => ?_) AllReadyH.nil
  go_simp
  with_reducible refine (X2.out _ hH2.2).mono ?_
  rintro r wc5 ⟨⟨s2, a2, n2, c2, e2, rfl, N2_8⟩, gg7⟩
  refine hK.out _ _ ⟨⟨keepG gg7 hH2.1.1, keepG gg7 hH2.1.2.1, keepG gg7 hH2.1.2.2.1, keepG gg7 hH2.1.2.2.2⟩, hH2.2.trans gg7⟩ (fun hH6 => ?_)
  have hzwc5 := hH2.2.size
  clear hK K
  (try simp only [Act.put, List.setIfInBounds_toArray, List.set_cons_zero, List.set_cons_succ])
  have N1_9 := N1_4.gr gg7
  clear N1_4
  refine wpAnyH_ready (rs := [4]) (by kernel_rfl) (by simp) ?_
  refine AllReadyH.cons (o := ({ dst := some 83, op := Op.call { callee := Callee.value (Operand.func 24), args := #[Operand.tmp 80, Operand.tmp 82], argTypes := #[40, 40] }, type := 3, pos := "outright.go:31", after := #[{ on := 1, ground := Ground.data }, { on := 3, ground := Ground.data }, { on := 3, ground := Ground.chain }], guard := none } : Oper)) rfl (fun K hK => ?_) AllReadyH.nil
  go_simp
  with_reducible refine (X3.out _ _ _ _ _ _ _ _ _ _ _ hH6.2 N1_9 N2_8).mono ?_
  rintro r wc10 ⟨rfl, gg12⟩
  refine hK.out _ _ ⟨⟨keepG gg12 hH6.1.1, keepG gg12 hH6.1.2.1, keepG gg12 hH6.1.2.2.1, keepG gg12 hH6.1.2.2.2⟩, hH6.2.trans gg12⟩ (fun hH11 => ?_)
  have hzwc10 := hH6.2.size
  clear hK K
  (try simp only [Act.put, List.setIfInBounds_toArray, List.set_cons_zero, List.set_cons_succ])
  have N1_13 := N1_9.gr gg12
  clear N1_9
  have N2_14 := N2_8.gr gg12
  clear N2_8
  refine wpAnyH_take (i := 5) (oi := ({ dst := some 84, op := Op.binOp BinOp.leq 3 (Operand.tmp 83) (Operand.const (Value.int IntKind.i64 0)) 3, type := 4, pos := "outright.go:31", after := #[{ on := 4, ground := Ground.data }], guard := none } : Oper)) (v := ?_) rfl (by kernel_rfl) (by kernel_rfl) (by kernel_rfl) (fun _ _ _ h => h) (Or.inl ⟨by rfl, ?_⟩) (by with_reducible assumption) ?_
  rotate_left
  · intro w hSw
    (try dsimp only at hSw)
    first | (go_simp; done) | (go_simp; with_reducible rfl)
  (try simp only [Act.put, List.setIfInBounds_toArray, List.set_cons_zero, List.set_cons_succ])
  refine wpAnyH_take (i := 6) (oi := ({ dst := some 85, op := Op.move (Operand.tmp 84), type := 4, pos := "outright.go:31", after := #[{ on := 5, ground := Ground.data }, { on := 4, ground := Ground.chain }], guard := none } : Oper)) (v := ?_) rfl (by kernel_rfl) (by kernel_rfl) (by kernel_rfl) (fun _ _ _ h => h) (Or.inl ⟨by rfl, ?_⟩) (by with_reducible assumption) ?_
  rotate_left
  · intro w hSw
    (try dsimp only at hSw)
    first | (go_simp; done) | (go_simp; with_reducible rfl)
  (try simp only [Act.put, List.setIfInBounds_toArray, List.set_cons_zero, List.set_cons_succ])
  refine wpAnyH_ready (rs := [7]) (by kernel_rfl) (by simp) ?_
  refine AllReadyH.cons (o := ({ dst := some 86, op := Op.call { callee := Callee.value (Operand.func 8), args := #[], argTypes := #[] }, type := 4, pos := "outright.go:31", after := #[{ on := 6, ground := Ground.chain }, { on := 6, ground := Ground.guard }], guard := some (6, true) } : Oper)) rfl (fun K hK => ?_) AllReadyH.nil
  go_simp
  with_reducible refine (X4.out _ hH11.2).mono ?_
  rintro r wc15 ⟨rfl, gg17⟩
  refine hK.out _ _ ⟨⟨keepG gg17 hH11.1.1, keepG gg17 hH11.1.2.1, keepG gg17 hH11.1.2.2.1, keepG gg17 hH11.1.2.2.2⟩, hH11.2.trans gg17⟩ (fun hH16 => ?_)
  have hzwc15 := hH11.2.size
  clear hK K
  (try simp only [Act.put, List.setIfInBounds_toArray, List.set_cons_zero, List.set_cons_succ])
  have N1_18 := N1_13.gr gg17
  clear N1_13
  have N2_19 := N2_14.gr gg17
  clear N2_14
  refine wpAnyH_take (i := 8) (oi := ({ dst := some 87, op := Op.pick (Operand.tmp 85) (Operand.tmp 86) (Operand.const (Value.bool false)), type := 4, pos := "outright.go:31", after := #[{ on := 6, ground := Ground.data }, { on := 7, ground := Ground.data }], guard := none } : Oper)) (v := ?_) rfl (by kernel_rfl) (by kernel_rfl) (by kernel_rfl) (fun _ _ _ h => h) (Or.inl ⟨by rfl, ?_⟩) (by with_reducible assumption) ?_
  rotate_left
  · intro w hSw
    (try dsimp only at hSw)
    first | (go_simp; done) | (go_simp; with_reducible rfl)
  (try simp only [Act.put, List.setIfInBounds_toArray, List.set_cons_zero, List.set_cons_succ])
  refine wpAnyH_take (i := 9) (oi := ({ dst := some 6, op := Op.assign (Operand.tmp 87), type := 4, pos := "outright.go:31", after := #[{ on := 8, ground := Ground.data }, { on := 7, ground := Ground.chain }, { on := 0, ground := Ground.phase }, { on := 1, ground := Ground.phase }, { on := 2, ground := Ground.phase }, { on := 3, ground := Ground.phase }, { on := 4, ground := Ground.phase }, { on := 5, ground := Ground.phase }, { on := 6, ground := Ground.phase }, { on := 7, ground := Ground.phase }, { on := 8, ground := Ground.phase }], guard := none } : Oper)) (v := ?_) rfl (by kernel_rfl) (by kernel_rfl) (by kernel_rfl) (fun _ _ _ h => h) (Or.inl ⟨by rfl, ?_⟩) (by with_reducible assumption) ?_
  rotate_left
  · intro w hSw
    (try dsimp only at hSw)
    first | (go_simp; done) | (go_simp; with_reducible rfl)
  (try simp only [Act.put, List.setIfInBounds_toArray, List.set_cons_zero, List.set_cons_succ])
  refine wpAnyH_done (by kernel_rfl) ?_ _
  exact ⟨_, _, _, _, _, _, _, _, _, rfl, hH16.2⟩
def RSt1 (t0 t1 t2 t5 t6 t7 t8 t9 t10 t11 t12 t13 t14 t15 t16 t17 t18 t19 t20 t21 t22 t23 t24 t25 t26 t27 t28 t29 t30 t31 t32 t33 t34 t35 t36 t37 t38 t39 t40 t41 t42 t43 t44 t45 t46 t47 t48 t49 t50 t51 t52 t53 t54 t55 t56 t57 t58 t59 t60 t61 t62 t63 t64 t65 t66 t67 t68 t69 t70 t71 t72 t73 t74 t75 t76 t77 t78 t79 t80 t81 t82 t83 t84 t85 t86 t87 : Value) (pA nA cA pB nB cB : Nat) (sA sB : Bool) (aA aB : Option Addr)  (wq : World) : Exit → Act → World → Prop
  | .normal, a, w => ∃ u19 u20 u21 u22 p7 p8 b1 m1 d1, ∃ D : Nat, ∃ tb b2 m2 d2 R2, a = { tmps := #[t0, t1, t2, .pointer (some ⟨pA, 0, none⟩), .pointer (some ⟨pB, 0, none⟩), t5, t6, .pointer (some ⟨p7, 0, none⟩), .pointer (some ⟨p8, 0, none⟩), t9, t10, t11, t12, t13, t14, t15, t16, t17, t18, u19, u20, u21, u22, t23, t24, t25, t26, t27, t28, t29, t30, t31, t32, t33, t34, t35, t36, t37, t38, t39, t40, t41, t42, t43, t44, t45, t46, t47, t48, t49, t50, t51, t52, t53, t54, t55, t56, t57, t58, t59, t60, t61, t62, t63, t64, t65, t66, t67, t68, t69, t70, t71, t72, t73, t74, t75, t76, t77, t78, t79, t80, t81, t82, t83, t84, t85, t86, t87], defers := [] } ∧ w.heap[p7]? = some (.cells #[.bool false, .slice b1 m1 d1] 24) ∧ w.heap[p8]? = some (.cells #[.bool tb, .slice b2 m2 d2] 24) ∧ 0 < D ∧ Wh w false b1 m1 d1 (D : Int) ∧ Fresh wq.heap.size w b1 m1 d1 ∧ D < 18446744073709551616 ^ 20 ∧ Wh w tb b2 m2 d2 R2 ∧ Fresh wq.heap.size w b2 m2 d2 ∧ R2.natAbs < 18446744073709551616 ^ 20 ∧ Gr wq w
  | _, _, _ => False
set_option maxRecDepth 100000 in
set_option maxHeartbeats 20000000 in
theorem regSt1 (t0 t1 t2 t5 t6 t7 t8 t9 t10 t11 t12 t13 t14 t15 t16 t17 t18 t19 t20 t21 t22 t23 t24 t25 t26 t27 t28 t29 t30 t31 t32 t33 t34 t35 t36 t37 t38 t39 t40 t41 t42 t43 t44 t45 t46 t47 t48 t49 t50 t51 t52 t53 t54 t55 t56 t57 t58 t59 t60 t61 t62 t63 t64 t65 t66 t67 t68 t69 t70 t71 t72 t73 t74 t75 t76 t77 t78 t79 t80 t81 t82 t83 t84 t85 t86 t87 : Value) (pA nA cA pB nB cB : Nat) (sA sB : Bool) (aA aB : Option Addr)  (wq : World)
    (X1 : Hid (∀ w1, Gr wq w1 → Calls Tryz.prog 16 #[.agg #[.bool sA, .slice aA nA cA], .int .i64 20] w1 fun r w' => ∃ b c d, ∃ D : Nat, r = .returned (.agg #[.bool false, .slice b c d]) ∧ 0 < D ∧ Hid (Wh w' false b c d (D : Int)) ∧ Hid (Fresh w1.heap.size w' b c d) ∧ Hid (D < 18446744073709551616 ^ 20) ∧ Gr w1 w'))
    (X2 : Hid (∀ w1, Gr wq w1 → Calls Tryz.prog 17 #[.agg #[.bool sB, .slice aB nB cB], .int .i64 20] w1 fun r w' => ∃ t b c d X, r = .returned (.agg #[.bool t, .slice b c d]) ∧ Hid (Wh w' t b c d X) ∧ Hid (Fresh w1.heap.size w' b c d) ∧ Hid (X.natAbs < 18446744073709551616 ^ 20) ∧ Gr w1 w')) (hpA : pA < wq.heap.size) (hpB : pB < wq.heap.size) (hcs : (wq.cell? ⟨pA, 0, none⟩ = some (.bool sA) ∧ wq.cell? ⟨pA, 1, none⟩ = some (.slice aA nA cA) ∧ wq.cell? ⟨pB, 0, none⟩ = some (.bool sB) ∧ wq.cell? ⟨pB, 1, none⟩ = some (.slice aB nB cB))) :
    Code.wp Tryz.prog (Code.region 1 #[{ dst := some 19, op := Op.load 36 (Operand.tmp 3), type := 36, pos := "outright.go:15", after := #[], guard := none }, { dst := some 20, op := Op.call { callee := Callee.value (Operand.func 16), args := #[Operand.tmp 19, Operand.const (Value.int IntKind.i64 20)], argTypes := #[36, 3] }, type := 24, pos := "outright.go:15", after := #[{ on := 0, ground := Ground.data }], guard := none }, { dst := some 21, op := Op.load 36 (Operand.tmp 4), type := 36, pos := "outright.go:15", after := #[], guard := none }, { dst := some 22, op := Op.call { callee := Callee.value (Operand.func 17), args := #[Operand.tmp 21, Operand.const (Value.int IntKind.i64 20)], argTypes := #[36, 3] }, type := 24, pos := "outright.go:15", after := #[{ on := 2, ground := Ground.data }, { on := 1, ground := Ground.chain }], guard := none }, { dst := some 7, op := Op.alloc 24, type := 0, pos := "outright.go:15", after := #[], guard := none }, { dst := some 8, op := Op.alloc 24, type := 0, pos := "outright.go:15", after := #[], guard := none }, { dst := none, op := Op.store 24 (Operand.tmp 7) (Operand.tmp 20), type := 0, pos := "outright.go:15", after := #[{ on := 4, ground := Ground.data }, { on := 1, ground := Ground.data }, { on := 3, ground := Ground.chain }, { on := 0, ground := Ground.phase }, { on := 1, ground := Ground.phase }, { on := 2, ground := Ground.textOnly Departure.lateStores }, { on := 3, ground := Ground.textOnly Departure.lateStoresUnsure }, { on := 4, ground := Ground.phase }, { on := 5, ground := Ground.phase }], guard := none }, { dst := none, op := Op.store 24 (Operand.tmp 8) (Operand.tmp 22), type := 0, pos := "outright.go:15", after := #[{ on := 5, ground := Ground.data }, { on := 3, ground := Ground.data }, { on := 6, ground := Ground.chain }, { on := 0, ground := Ground.phase }, { on := 1, ground := Ground.phase }, { on := 2, ground := Ground.phase }, { on := 3, ground := Ground.phase }, { on := 4, ground := Ground.phase }, { on := 5, ground := Ground.phase }, { on := 6, ground := Ground.phase }], guard := none }] true) (RSt1 t0 t1 t2 t5 t6 t7 t8 t9 t10 t11 t12 t13 t14 t15 t16 t17 t18 t19 t20 t21 t22 t23 t24 t25 t26 t27 t28 t29 t30 t31 t32 t33 t34 t35 t36 t37 t38 t39 t40 t41 t42 t43 t44 t45 t46 t47 t48 t49 t50 t51 t52 t53 t54 t55 t56 t57 t58 t59 t60 t61 t62 t63 t64 t65 t66 t67 t68 t69 t70 t71 t72 t73 t74 t75 t76 t77 t78 t79 t80 t81 t82 t83 t84 t85 t86 t87 pA nA cA pB nB cB sA sB aA aB  wq) { tmps := #[t0, t1, t2, .pointer (some ⟨pA, 0, none⟩), .pointer (some ⟨pB, 0, none⟩), t5, t6, t7, t8, t9, t10, t11, t12, t13, t14, t15, t16, t17, t18, t19, t20, t21, t22, t23, t24, t25, t26, t27, t28, t29, t30, t31, t32, t33, t34, t35, t36, t37, t38, t39, t40, t41, t42, t43, t44, t45, t46, t47, t48, t49, t50, t51, t52, t53, t54, t55, t56, t57, t58, t59, t60, t61, t62, t63, t64, t65, t66, t67, t68, t69, t70, t71, t72, t73, t74, t75, t76, t77, t78, t79, t80, t81, t82, t83, t84, t85, t86, t87], defers := [] } wq := by
  have hS0 : (wq.drew.cell? ⟨pA, 0, none⟩ = some (.bool sA) ∧ wq.drew.cell? ⟨pA, 1, none⟩ = some (.slice aA nA cA) ∧ wq.drew.cell? ⟨pB, 0, none⟩ = some (.bool sB) ∧ wq.drew.cell? ⟨pB, 1, none⟩ = some (.slice aB nB cB)) ∧ Gr wq wq.drew := ⟨hcs, (Gr.refl wq).drew⟩
  clear hcs
  refine wp_region_held_drew (S := fun w' => (w'.cell? ⟨pA, 0, none⟩ = some (.bool sA) ∧ w'.cell? ⟨pA, 1, none⟩ = some (.slice aA nA cA) ∧ w'.cell? ⟨pB, 0, none⟩ = some (.bool sB) ∧ w'.cell? ⟨pB, 1, none⟩ = some (.slice aB nB cB)) ∧ Gr wq w') (by kernel_rfl) hS0 (fun hHeld => ?_)
  clear hS0
  generalize wq.drew = wd at *
  refine wpAnyH_take (i := 0) (oi := ({ dst := some 19, op := Op.load 36 (Operand.tmp 3), type := 36, pos := "outright.go:15", after := #[], guard := none } : Oper)) (v := ?_) rfl (by kernel_rfl) (by kernel_rfl) (by kernel_rfl) (fun _ _ _ h => h) (Or.inl ⟨by rfl, ?_⟩) (by with_reducible assumption) ?_
  rotate_left
  · intro w hSw
    (try dsimp only at hSw)
    first | (go_simp; done) | (go_simp; with_reducible rfl)
  (try simp only [Act.put, List.setIfInBounds_toArray, List.set_cons_zero, List.set_cons_succ])
  refine wpAnyH_take (i := 2) (oi := ({ dst := some 21, op := Op.load 36 (Operand.tmp 4), type := 36, pos := "outright.go:15", after := #[], guard := none } : Oper)) (v := ?_) rfl (by kernel_rfl) (by kernel_rfl) (by kernel_rfl) (fun _ _ _ h => h) (Or.inl ⟨by rfl, ?_⟩) (by with_reducible assumption) ?_
  rotate_left
  · intro w hSw
    (try dsimp only at hSw)
    first | (go_simp; done) | (go_simp; with_reducible rfl)
  (try simp only [Act.put, List.setIfInBounds_toArray, List.set_cons_zero, List.set_cons_succ])
  refine wpAnyH_ready (rs := [1, 4, 5]) (by kernel_rfl) (by simp) ?_
  refine AllReadyH.cons (o := ({ dst := some 20, op := Op.call { callee := Callee.value (Operand.func 16), args := #[Operand.tmp 19, Operand.const (Value.int IntKind.i64 20)], argTypes := #[36, 3] }, type := 24, pos := "outright.go:15", after := #[{ on := 0, ground := Ground.data }], guard := none } : Oper)) rfl (fun K hK => ?_) ?_
  · go_simp
    with_reducible refine (X1.out _ hHeld.2).mono ?_
    rintro r wc1 ⟨b1, m1, d1, D, rfl, hD, W1_4, F1_5, hDm, gg3⟩
    replace W1_4 := W1_4.out
    replace F1_5 := F1_5.out.low hHeld.2.size
    refine hK.out _ _ ⟨⟨keepG gg3 hHeld.1.1, keepG gg3 hHeld.1.2.1, keepG gg3 hHeld.1.2.2.1, keepG gg3 hHeld.1.2.2.2⟩, hHeld.2.trans gg3⟩ (fun hH2 => ?_)
    have hzwc1 := hHeld.2.size
    clear hK K
    (try simp only [Act.put, List.setIfInBounds_toArray, List.set_cons_zero, List.set_cons_succ])
    refine wpAnyH_ready (rs := [3, 4, 5]) (by kernel_rfl) (by simp) ?_
    refine AllReadyH.cons (o := ({ dst := some 22, op := Op.call { callee := Callee.value (Operand.func 17), args := #[Operand.tmp 21, Operand.const (Value.int IntKind.i64 20)], argTypes := #[36, 3] }, type := 24, pos := "outright.go:15", after := #[{ on := 2, ground := Ground.data }, { on := 1, ground := Ground.chain }], guard := none } : Oper)) rfl (fun K hK => ?_) ?_
    · go_simp
      with_reducible refine (X2.out _ hH2.2).mono ?_
      rintro r wc6 ⟨tb, b2, m2, d2, R2, rfl, W2_9, F2_10, hRm, gg8⟩
      replace W2_9 := W2_9.out
      replace F2_10 := F2_10.out.low hH2.2.size
      refine hK.out _ _ ⟨⟨keepG gg8 hH2.1.1, keepG gg8 hH2.1.2.1, keepG gg8 hH2.1.2.2.1, keepG gg8 hH2.1.2.2.2⟩, hH2.2.trans gg8⟩ (fun hH7 => ?_)
      have hzwc6 := hH2.2.size
      clear hK K
      (try simp only [Act.put, List.setIfInBounds_toArray, List.set_cons_zero, List.set_cons_succ])
      have W1_11 := W1_4.gr gg8
      clear W1_4
      have F1_12 := F1_5.gr gg8
      clear F1_5
      refine wpAnyH_ready (rs := [4, 5]) (by kernel_rfl) (by simp) ?_
      refine AllReadyH.cons (o := ({ dst := some 7, op := Op.alloc 24, type := 0, pos := "outright.go:15", after := #[], guard := none } : Oper)) rfl (fun K hK => ?_) ?_
      · go_simp
        refine hK.out _ _ ⟨⟨keepG ((Gr.refl wc6).alloc (.cells #[.bool false, .slice none 0 0] 24)) hH7.1.1, keepG ((Gr.refl wc6).alloc (.cells #[.bool false, .slice none 0 0] 24)) hH7.1.2.1, keepG ((Gr.refl wc6).alloc (.cells #[.bool false, .slice none 0 0] 24)) hH7.1.2.2.1, keepG ((Gr.refl wc6).alloc (.cells #[.bool false, .slice none 0 0] 24)) hH7.1.2.2.2⟩, hH7.2.trans ((Gr.refl wc6).alloc (.cells #[.bool false, .slice none 0 0] 24))⟩ (fun hH14 => ?_)
        clear hK K
        (try simp only [Act.put, List.setIfInBounds_toArray, List.set_cons_zero, List.set_cons_succ])
        have b7_16 := blk1 wc6 (.cells #[.bool false, .slice none 0 0] 24)
        have gg15 := (Gr.refl wc6).alloc (.cells #[.bool false, .slice none 0 0] 24)
        have l717 := hH7.2.size
        have W1_18 := W1_11.gr gg15
        clear W1_11
        have F1_19 := F1_12.gr gg15
        clear F1_12
        have W2_20 := W2_9.gr gg15
        clear W2_9
        have F2_21 := F2_10.gr gg15
        clear F2_10
        generalize wc6.alloc (.cells #[.bool false, .slice none 0 0] 24) = wa13 at *
        refine wpAnyH_ready (rs := [5]) (by kernel_rfl) (by simp) ?_
        refine AllReadyH.cons (o := ({ dst := some 8, op := Op.alloc 24, type := 0, pos := "outright.go:15", after := #[], guard := none } : Oper)) rfl (fun K hK => ?_) AllReadyH.nil
        have lt8b7 := lt_of_get2 b7_16
        go_simp
        refine hK.out _ _ ⟨⟨keepG ((Gr.refl wa13).alloc (.cells #[.bool false, .slice none 0 0] 24)) hH14.1.1, keepG ((Gr.refl wa13).alloc (.cells #[.bool false, .slice none 0 0] 24)) hH14.1.2.1, keepG ((Gr.refl wa13).alloc (.cells #[.bool false, .slice none 0 0] 24)) hH14.1.2.2.1, keepG ((Gr.refl wa13).alloc (.cells #[.bool false, .slice none 0 0] 24)) hH14.1.2.2.2⟩, hH14.2.trans ((Gr.refl wa13).alloc (.cells #[.bool false, .slice none 0 0] 24))⟩ (fun hH23 => ?_)
        clear hK K
        (try simp only [Act.put, List.setIfInBounds_toArray, List.set_cons_zero, List.set_cons_succ])
        have b8_25 := blk1 wa13 (.cells #[.bool false, .slice none 0 0] 24)
        have gg24 := (Gr.refl wa13).alloc (.cells #[.bool false, .slice none 0 0] 24)
        have l826 := hH14.2.size
        have W1_27 := W1_18.gr gg24
        clear W1_18
        have F1_28 := F1_19.gr gg24
        clear F1_19
        have W2_29 := W2_20.gr gg24
        clear W2_20
        have F2_30 := F2_21.gr gg24
        clear F2_21
        have b7_31 := keepO gg24 b7_16
        clear b7_16
        generalize wa13.alloc (.cells #[.bool false, .slice none 0 0] 24) = wa22 at *
        refine wpAnyH_ready (rs := [6]) (by kernel_rfl) (by simp) ?_
        refine AllReadyH.cons (o := ({ dst := none, op := Op.store 24 (Operand.tmp 7) (Operand.tmp 20), type := 0, pos := "outright.go:15", after := #[{ on := 4, ground := Ground.data }, { on := 1, ground := Ground.data }, { on := 3, ground := Ground.chain }, { on := 0, ground := Ground.phase }, { on := 1, ground := Ground.phase }, { on := 2, ground := Ground.textOnly Departure.lateStores }, { on := 3, ground := Ground.textOnly Departure.lateStoresUnsure }, { on := 4, ground := Ground.phase }, { on := 5, ground := Ground.phase }], guard := none } : Oper)) rfl (fun K hK => ?_) AllReadyH.nil
        obtain ⟨t0', t1', u0', u1'⟩ := Out2.of b7_31
        go_simp
        refine hK.out _ _ ⟨⟨far2 (Nat.ne_of_gt (Nat.lt_of_lt_of_le hpA l717)) hH23.1.1, far2 (Nat.ne_of_gt (Nat.lt_of_lt_of_le hpA l717)) hH23.1.2.1, far2 (Nat.ne_of_gt (Nat.lt_of_lt_of_le hpB l717)) hH23.1.2.2.1, far2 (Nat.ne_of_gt (Nat.lt_of_lt_of_le hpB l717)) hH23.1.2.2.2⟩, ((hH23.2.setCell (p := ⟨_, 0, none⟩) l717 _).setCell (p := ⟨_, 1, none⟩) l717 _)⟩ (fun hS32 => ?_)
        clear hK K t0' t1' u0' u1'
        (try simp only [Act.put, List.setIfInBounds_toArray, List.set_cons_zero, List.set_cons_succ])
        have W1_33 := wh_set2 W1_27 F1_28 b7_31 (.bool false) (.slice b1 m1 d1) (by decide)
        have W2_34 := wh_set2 W2_29 F2_30 b7_31 (.bool false) (.slice b1 m1 d1) (by decide)
        have F1_35 := fresh_set2 F1_28 b7_31 (.bool false) (.slice b1 m1 d1) (by decide)
        have F2_36 := fresh_set2 F2_30 b7_31 (.bool false) (.slice b1 m1 d1) (by decide)
        have b8_37 := heap_far (q := wc6.heap.size) (i := 1) (v := (.slice b1 m1 d1)) (heap_far (q := wc6.heap.size) (i := 0) (v := (.bool false)) b8_25 (by omega)) (by omega)
        have n7_38 := put2_block b7_31 (.bool false) (.slice b1 m1 d1)
        clear W1_27 W2_29 F1_28 F2_30 b8_25 b7_31
        refine wpAnyH_ready (rs := [7]) (by kernel_rfl) (by simp) ?_
        refine AllReadyH.cons (o := ({ dst := none, op := Op.store 24 (Operand.tmp 8) (Operand.tmp 22), type := 0, pos := "outright.go:15", after := #[{ on := 5, ground := Ground.data }, { on := 3, ground := Ground.data }, { on := 6, ground := Ground.chain }, { on := 0, ground := Ground.phase }, { on := 1, ground := Ground.phase }, { on := 2, ground := Ground.phase }, { on := 3, ground := Ground.phase }, { on := 4, ground := Ground.phase }, { on := 5, ground := Ground.phase }, { on := 6, ground := Ground.phase }], guard := none } : Oper)) rfl (fun K hK => ?_) AllReadyH.nil
        obtain ⟨t0', t1', u0', u1'⟩ := Out2.of b8_37
        go_simp
        refine hK.out _ _ ⟨⟨far2 (Nat.ne_of_gt (Nat.lt_of_lt_of_le hpA l826)) hS32.1.1, far2 (Nat.ne_of_gt (Nat.lt_of_lt_of_le hpA l826)) hS32.1.2.1, far2 (Nat.ne_of_gt (Nat.lt_of_lt_of_le hpB l826)) hS32.1.2.2.1, far2 (Nat.ne_of_gt (Nat.lt_of_lt_of_le hpB l826)) hS32.1.2.2.2⟩, ((hS32.2.setCell (p := ⟨_, 0, none⟩) l826 _).setCell (p := ⟨_, 1, none⟩) l826 _)⟩ (fun hS39 => ?_)
        clear hK K t0' t1' u0' u1'
        (try simp only [Act.put, List.setIfInBounds_toArray, List.set_cons_zero, List.set_cons_succ])
        have W1_40 := wh_set2 W1_33 F1_35 b8_37 (.bool tb) (.slice b2 m2 d2) (by decide)
        have W2_41 := wh_set2 W2_34 F2_36 b8_37 (.bool tb) (.slice b2 m2 d2) (by decide)
        have F1_42 := fresh_set2 F1_35 b8_37 (.bool tb) (.slice b2 m2 d2) (by decide)
        have F2_43 := fresh_set2 F2_36 b8_37 (.bool tb) (.slice b2 m2 d2) (by decide)
        have n7_44 := heap_far (q := wa13.heap.size) (i := 1) (v := (.slice b2 m2 d2)) (heap_far (q := wa13.heap.size) (i := 0) (v := (.bool tb)) n7_38 (by omega)) (by omega)
        have n8_45 := put2_block b8_37 (.bool tb) (.slice b2 m2 d2)
        clear W1_33 W2_34 F1_35 F2_36 n7_38 b8_37
        refine wpAnyH_done (by kernel_rfl) ?_ _
        exact ⟨_, _, _, _, _, _, b1, m1, d1, D, tb, b2, m2, d2, R2, rfl, n7_44, n8_45, hD, W1_40, F1_42, hDm.out, W2_41, F2_43, hRm.out, hS39.2⟩
      refine AllReadyH.cons (o := ({ dst := some 8, op := Op.alloc 24, type := 0, pos := "outright.go:15", after := #[], guard := none } : Oper)) rfl (fun K hK => ?_) AllReadyH.nil
      go_simp
      refine hK.out _ _ ⟨⟨keepG ((Gr.refl wc6).alloc (.cells #[.bool false, .slice none 0 0] 24)) hH7.1.1, keepG ((Gr.refl wc6).alloc (.cells #[.bool false, .slice none 0 0] 24)) hH7.1.2.1, keepG ((Gr.refl wc6).alloc (.cells #[.bool false, .slice none 0 0] 24)) hH7.1.2.2.1, keepG ((Gr.refl wc6).alloc (.cells #[.bool false, .slice none 0 0] 24)) hH7.1.2.2.2⟩, hH7.2.trans ((Gr.refl wc6).alloc (.cells #[.bool false, .slice none 0 0] 24))⟩ (fun hH47 => ?_)
      clear hK K
      (try simp only [Act.put, List.setIfInBounds_toArray, List.set_cons_zero, List.set_cons_succ])
      have b8_49 := blk1 wc6 (.cells #[.bool false, .slice none 0 0] 24)
      have gg48 := (Gr.refl wc6).alloc (.cells #[.bool false, .slice none 0 0] 24)
      have l850 := hH7.2.size
      have W1_51 := W1_11.gr gg48
      clear W1_11
      have F1_52 := F1_12.gr gg48
      clear F1_12
      have W2_53 := W2_9.gr gg48
      clear W2_9
      have F2_54 := F2_10.gr gg48
      clear F2_10
      generalize wc6.alloc (.cells #[.bool false, .slice none 0 0] 24) = wa46 at *
      refine wpAnyH_ready (rs := [4]) (by kernel_rfl) (by simp) ?_
      refine AllReadyH.cons (o := ({ dst := some 7, op := Op.alloc 24, type := 0, pos := "outright.go:15", after := #[], guard := none } : Oper)) rfl (fun K hK => ?_) AllReadyH.nil
      have lt7b8 := lt_of_get2 b8_49
      go_simp
      refine hK.out _ _ ⟨⟨keepG ((Gr.refl wa46).alloc (.cells #[.bool false, .slice none 0 0] 24)) hH47.1.1, keepG ((Gr.refl wa46).alloc (.cells #[.bool false, .slice none 0 0] 24)) hH47.1.2.1, keepG ((Gr.refl wa46).alloc (.cells #[.bool false, .slice none 0 0] 24)) hH47.1.2.2.1, keepG ((Gr.refl wa46).alloc (.cells #[.bool false, .slice none 0 0] 24)) hH47.1.2.2.2⟩, hH47.2.trans ((Gr.refl wa46).alloc (.cells #[.bool false, .slice none 0 0] 24))⟩ (fun hH56 => ?_)
      clear hK K
      (try simp only [Act.put, List.setIfInBounds_toArray, List.set_cons_zero, List.set_cons_succ])
      have b7_58 := blk1 wa46 (.cells #[.bool false, .slice none 0 0] 24)
      have gg57 := (Gr.refl wa46).alloc (.cells #[.bool false, .slice none 0 0] 24)
      have l759 := hH47.2.size
      have W1_60 := W1_51.gr gg57
      clear W1_51
      have F1_61 := F1_52.gr gg57
      clear F1_52
      have W2_62 := W2_53.gr gg57
      clear W2_53
      have F2_63 := F2_54.gr gg57
      clear F2_54
      have b8_64 := keepO gg57 b8_49
      clear b8_49
      generalize wa46.alloc (.cells #[.bool false, .slice none 0 0] 24) = wa55 at *
      refine wpAnyH_ready (rs := [6]) (by kernel_rfl) (by simp) ?_
      refine AllReadyH.cons (o := ({ dst := none, op := Op.store 24 (Operand.tmp 7) (Operand.tmp 20), type := 0, pos := "outright.go:15", after := #[{ on := 4, ground := Ground.data }, { on := 1, ground := Ground.data }, { on := 3, ground := Ground.chain }, { on := 0, ground := Ground.phase }, { on := 1, ground := Ground.phase }, { on := 2, ground := Ground.textOnly Departure.lateStores }, { on := 3, ground := Ground.textOnly Departure.lateStoresUnsure }, { on := 4, ground := Ground.phase }, { on := 5, ground := Ground.phase }], guard := none } : Oper)) rfl (fun K hK => ?_) AllReadyH.nil
      obtain ⟨t0', t1', u0', u1'⟩ := Out2.of b7_58
      go_simp
      refine hK.out _ _ ⟨⟨far2 (Nat.ne_of_gt (Nat.lt_of_lt_of_le hpA l759)) hH56.1.1, far2 (Nat.ne_of_gt (Nat.lt_of_lt_of_le hpA l759)) hH56.1.2.1, far2 (Nat.ne_of_gt (Nat.lt_of_lt_of_le hpB l759)) hH56.1.2.2.1, far2 (Nat.ne_of_gt (Nat.lt_of_lt_of_le hpB l759)) hH56.1.2.2.2⟩, ((hH56.2.setCell (p := ⟨_, 0, none⟩) l759 _).setCell (p := ⟨_, 1, none⟩) l759 _)⟩ (fun hS65 => ?_)
      clear hK K t0' t1' u0' u1'
      (try simp only [Act.put, List.setIfInBounds_toArray, List.set_cons_zero, List.set_cons_succ])
      have W1_66 := wh_set2 W1_60 F1_61 b7_58 (.bool false) (.slice b1 m1 d1) (by decide)
      have W2_67 := wh_set2 W2_62 F2_63 b7_58 (.bool false) (.slice b1 m1 d1) (by decide)
      have F1_68 := fresh_set2 F1_61 b7_58 (.bool false) (.slice b1 m1 d1) (by decide)
      have F2_69 := fresh_set2 F2_63 b7_58 (.bool false) (.slice b1 m1 d1) (by decide)
      have b8_70 := heap_far (q := wa46.heap.size) (i := 1) (v := (.slice b1 m1 d1)) (heap_far (q := wa46.heap.size) (i := 0) (v := (.bool false)) b8_64 (by omega)) (by omega)
      have n7_71 := put2_block b7_58 (.bool false) (.slice b1 m1 d1)
      clear W1_60 W2_62 F1_61 F2_63 b8_64 b7_58
      refine wpAnyH_ready (rs := [7]) (by kernel_rfl) (by simp) ?_
      refine AllReadyH.cons (o := ({ dst := none, op := Op.store 24 (Operand.tmp 8) (Operand.tmp 22), type := 0, pos := "outright.go:15", after := #[{ on := 5, ground := Ground.data }, { on := 3, ground := Ground.data }, { on := 6, ground := Ground.chain }, { on := 0, ground := Ground.phase }, { on := 1, ground := Ground.phase }, { on := 2, ground := Ground.phase }, { on := 3, ground := Ground.phase }, { on := 4, ground := Ground.phase }, { on := 5, ground := Ground.phase }, { on := 6, ground := Ground.phase }], guard := none } : Oper)) rfl (fun K hK => ?_) AllReadyH.nil
      obtain ⟨t0', t1', u0', u1'⟩ := Out2.of b8_70
      go_simp
      refine hK.out _ _ ⟨⟨far2 (Nat.ne_of_gt (Nat.lt_of_lt_of_le hpA l850)) hS65.1.1, far2 (Nat.ne_of_gt (Nat.lt_of_lt_of_le hpA l850)) hS65.1.2.1, far2 (Nat.ne_of_gt (Nat.lt_of_lt_of_le hpB l850)) hS65.1.2.2.1, far2 (Nat.ne_of_gt (Nat.lt_of_lt_of_le hpB l850)) hS65.1.2.2.2⟩, ((hS65.2.setCell (p := ⟨_, 0, none⟩) l850 _).setCell (p := ⟨_, 1, none⟩) l850 _)⟩ (fun hS72 => ?_)
      clear hK K t0' t1' u0' u1'
      (try simp only [Act.put, List.setIfInBounds_toArray, List.set_cons_zero, List.set_cons_succ])
      have W1_73 := wh_set2 W1_66 F1_68 b8_70 (.bool tb) (.slice b2 m2 d2) (by decide)
      have W2_74 := wh_set2 W2_67 F2_69 b8_70 (.bool tb) (.slice b2 m2 d2) (by decide)
      have F1_75 := fresh_set2 F1_68 b8_70 (.bool tb) (.slice b2 m2 d2) (by decide)
      have F2_76 := fresh_set2 F2_69 b8_70 (.bool tb) (.slice b2 m2 d2) (by decide)
      have n7_77 := heap_far (q := wc6.heap.size) (i := 1) (v := (.slice b2 m2 d2)) (heap_far (q := wc6.heap.size) (i := 0) (v := (.bool tb)) n7_71 (by omega)) (by omega)
      have n8_78 := put2_block b8_70 (.bool tb) (.slice b2 m2 d2)
      clear W1_66 W2_67 F1_68 F2_69 n7_71 b8_70
      refine wpAnyH_done (by kernel_rfl) ?_ _
      exact ⟨_, _, _, _, _, _, b1, m1, d1, D, tb, b2, m2, d2, R2, rfl, n7_77, n8_78, hD, W1_73, F1_75, hDm.out, W2_74, F2_76, hRm.out, hS72.2⟩
    refine AllReadyH.cons (o := ({ dst := some 7, op := Op.alloc 24, type := 0, pos := "outright.go:15", after := #[], guard := none } : Oper)) rfl (fun K hK => ?_) ?_
    · go_simp
      refine hK.out _ _ ⟨⟨keepG ((Gr.refl wc1).alloc (.cells #[.bool false, .slice none 0 0] 24)) hH2.1.1, keepG ((Gr.refl wc1).alloc (.cells #[.bool false, .slice none 0 0] 24)) hH2.1.2.1, keepG ((Gr.refl wc1).alloc (.cells #[.bool false, .slice none 0 0] 24)) hH2.1.2.2.1, keepG ((Gr.refl wc1).alloc (.cells #[.bool false, .slice none 0 0] 24)) hH2.1.2.2.2⟩, hH2.2.trans ((Gr.refl wc1).alloc (.cells #[.bool false, .slice none 0 0] 24))⟩ (fun hH80 => ?_)
      clear hK K
      (try simp only [Act.put, List.setIfInBounds_toArray, List.set_cons_zero, List.set_cons_succ])
      have b7_82 := blk1 wc1 (.cells #[.bool false, .slice none 0 0] 24)
      have gg81 := (Gr.refl wc1).alloc (.cells #[.bool false, .slice none 0 0] 24)
      have l783 := hH2.2.size
      have W1_84 := W1_4.gr gg81
      clear W1_4
      have F1_85 := F1_5.gr gg81
      clear F1_5
      generalize wc1.alloc (.cells #[.bool false, .slice none 0 0] 24) = wa79 at *
      refine wpAnyH_ready (rs := [3, 5]) (by kernel_rfl) (by simp) ?_
      refine AllReadyH.cons (o := ({ dst := some 22, op := Op.call { callee := Callee.value (Operand.func 17), args := #[Operand.tmp 21, Operand.const (Value.int IntKind.i64 20)], argTypes := #[36, 3] }, type := 24, pos := "outright.go:15", after := #[{ on := 2, ground := Ground.data }, { on := 1, ground := Ground.chain }], guard := none } : Oper)) rfl (fun K hK => ?_) ?_
      · go_simp
        with_reducible refine (X2.out _ hH80.2).mono ?_
        rintro r wc86 ⟨tb, b2, m2, d2, R2, rfl, W2_89, F2_90, hRm, gg88⟩
        replace W2_89 := W2_89.out
        replace F2_90 := F2_90.out.low hH80.2.size
        refine hK.out _ _ ⟨⟨keepG gg88 hH80.1.1, keepG gg88 hH80.1.2.1, keepG gg88 hH80.1.2.2.1, keepG gg88 hH80.1.2.2.2⟩, hH80.2.trans gg88⟩ (fun hH87 => ?_)
        have hzwc86 := hH80.2.size
        clear hK K
        (try simp only [Act.put, List.setIfInBounds_toArray, List.set_cons_zero, List.set_cons_succ])
        have W1_91 := W1_84.gr gg88
        clear W1_84
        have F1_92 := F1_85.gr gg88
        clear F1_85
        have b7_93 := keepO gg88 b7_82
        clear b7_82
        refine wpAnyH_ready (rs := [5]) (by kernel_rfl) (by simp) ?_
        refine AllReadyH.cons (o := ({ dst := some 8, op := Op.alloc 24, type := 0, pos := "outright.go:15", after := #[], guard := none } : Oper)) rfl (fun K hK => ?_) AllReadyH.nil
        have lt8b7 := lt_of_get2 b7_93
        go_simp
        refine hK.out _ _ ⟨⟨keepG ((Gr.refl wc86).alloc (.cells #[.bool false, .slice none 0 0] 24)) hH87.1.1, keepG ((Gr.refl wc86).alloc (.cells #[.bool false, .slice none 0 0] 24)) hH87.1.2.1, keepG ((Gr.refl wc86).alloc (.cells #[.bool false, .slice none 0 0] 24)) hH87.1.2.2.1, keepG ((Gr.refl wc86).alloc (.cells #[.bool false, .slice none 0 0] 24)) hH87.1.2.2.2⟩, hH87.2.trans ((Gr.refl wc86).alloc (.cells #[.bool false, .slice none 0 0] 24))⟩ (fun hH95 => ?_)
        clear hK K
        (try simp only [Act.put, List.setIfInBounds_toArray, List.set_cons_zero, List.set_cons_succ])
        have b8_97 := blk1 wc86 (.cells #[.bool false, .slice none 0 0] 24)
        have gg96 := (Gr.refl wc86).alloc (.cells #[.bool false, .slice none 0 0] 24)
        have l898 := hH87.2.size
        have W1_99 := W1_91.gr gg96
        clear W1_91
        have F1_100 := F1_92.gr gg96
        clear F1_92
        have b7_101 := keepO gg96 b7_93
        clear b7_93
        have W2_102 := W2_89.gr gg96
        clear W2_89
        have F2_103 := F2_90.gr gg96
        clear F2_90
        generalize wc86.alloc (.cells #[.bool false, .slice none 0 0] 24) = wa94 at *
        refine wpAnyH_ready (rs := [6]) (by kernel_rfl) (by simp) ?_
        refine AllReadyH.cons (o := ({ dst := none, op := Op.store 24 (Operand.tmp 7) (Operand.tmp 20), type := 0, pos := "outright.go:15", after := #[{ on := 4, ground := Ground.data }, { on := 1, ground := Ground.data }, { on := 3, ground := Ground.chain }, { on := 0, ground := Ground.phase }, { on := 1, ground := Ground.phase }, { on := 2, ground := Ground.textOnly Departure.lateStores }, { on := 3, ground := Ground.textOnly Departure.lateStoresUnsure }, { on := 4, ground := Ground.phase }, { on := 5, ground := Ground.phase }], guard := none } : Oper)) rfl (fun K hK => ?_) AllReadyH.nil
        obtain ⟨t0', t1', u0', u1'⟩ := Out2.of b7_101
        go_simp
        refine hK.out _ _ ⟨⟨far2 (Nat.ne_of_gt (Nat.lt_of_lt_of_le hpA l783)) hH95.1.1, far2 (Nat.ne_of_gt (Nat.lt_of_lt_of_le hpA l783)) hH95.1.2.1, far2 (Nat.ne_of_gt (Nat.lt_of_lt_of_le hpB l783)) hH95.1.2.2.1, far2 (Nat.ne_of_gt (Nat.lt_of_lt_of_le hpB l783)) hH95.1.2.2.2⟩, ((hH95.2.setCell (p := ⟨_, 0, none⟩) l783 _).setCell (p := ⟨_, 1, none⟩) l783 _)⟩ (fun hS104 => ?_)
        clear hK K t0' t1' u0' u1'
        (try simp only [Act.put, List.setIfInBounds_toArray, List.set_cons_zero, List.set_cons_succ])
        have W1_105 := wh_set2 W1_99 F1_100 b7_101 (.bool false) (.slice b1 m1 d1) (by decide)
        have W2_106 := wh_set2 W2_102 F2_103 b7_101 (.bool false) (.slice b1 m1 d1) (by decide)
        have F1_107 := fresh_set2 F1_100 b7_101 (.bool false) (.slice b1 m1 d1) (by decide)
        have F2_108 := fresh_set2 F2_103 b7_101 (.bool false) (.slice b1 m1 d1) (by decide)
        have b8_109 := heap_far (q := wc1.heap.size) (i := 1) (v := (.slice b1 m1 d1)) (heap_far (q := wc1.heap.size) (i := 0) (v := (.bool false)) b8_97 (by omega)) (by omega)
        have n7_110 := put2_block b7_101 (.bool false) (.slice b1 m1 d1)
        clear W1_99 W2_102 F1_100 F2_103 b8_97 b7_101
        refine wpAnyH_ready (rs := [7]) (by kernel_rfl) (by simp) ?_
        refine AllReadyH.cons (o := ({ dst := none, op := Op.store 24 (Operand.tmp 8) (Operand.tmp 22), type := 0, pos := "outright.go:15", after := #[{ on := 5, ground := Ground.data }, { on := 3, ground := Ground.data }, { on := 6, ground := Ground.chain }, { on := 0, ground := Ground.phase }, { on := 1, ground := Ground.phase }, { on := 2, ground := Ground.phase }, { on := 3, ground := Ground.phase }, { on := 4, ground := Ground.phase }, { on := 5, ground := Ground.phase }, { on := 6, ground := Ground.phase }], guard := none } : Oper)) rfl (fun K hK => ?_) AllReadyH.nil
        obtain ⟨t0', t1', u0', u1'⟩ := Out2.of b8_109
        go_simp
        refine hK.out _ _ ⟨⟨far2 (Nat.ne_of_gt (Nat.lt_of_lt_of_le hpA l898)) hS104.1.1, far2 (Nat.ne_of_gt (Nat.lt_of_lt_of_le hpA l898)) hS104.1.2.1, far2 (Nat.ne_of_gt (Nat.lt_of_lt_of_le hpB l898)) hS104.1.2.2.1, far2 (Nat.ne_of_gt (Nat.lt_of_lt_of_le hpB l898)) hS104.1.2.2.2⟩, ((hS104.2.setCell (p := ⟨_, 0, none⟩) l898 _).setCell (p := ⟨_, 1, none⟩) l898 _)⟩ (fun hS111 => ?_)
        clear hK K t0' t1' u0' u1'
        (try simp only [Act.put, List.setIfInBounds_toArray, List.set_cons_zero, List.set_cons_succ])
        have W1_112 := wh_set2 W1_105 F1_107 b8_109 (.bool tb) (.slice b2 m2 d2) (by decide)
        have W2_113 := wh_set2 W2_106 F2_108 b8_109 (.bool tb) (.slice b2 m2 d2) (by decide)
        have F1_114 := fresh_set2 F1_107 b8_109 (.bool tb) (.slice b2 m2 d2) (by decide)
        have F2_115 := fresh_set2 F2_108 b8_109 (.bool tb) (.slice b2 m2 d2) (by decide)
        have n7_116 := heap_far (q := wc86.heap.size) (i := 1) (v := (.slice b2 m2 d2)) (heap_far (q := wc86.heap.size) (i := 0) (v := (.bool tb)) n7_110 (by omega)) (by omega)
        have n8_117 := put2_block b8_109 (.bool tb) (.slice b2 m2 d2)
        clear W1_105 W2_106 F1_107 F2_108 n7_110 b8_109
        refine wpAnyH_done (by kernel_rfl) ?_ _
        exact ⟨_, _, _, _, _, _, b1, m1, d1, D, tb, b2, m2, d2, R2, rfl, n7_116, n8_117, hD, W1_112, F1_114, hDm.out, W2_113, F2_115, hRm.out, hS111.2⟩
      refine AllReadyH.cons (o := ({ dst := some 8, op := Op.alloc 24, type := 0, pos := "outright.go:15", after := #[], guard := none } : Oper)) rfl (fun K hK => ?_) AllReadyH.nil
      have lt8b7 := lt_of_get2 b7_82
      go_simp
      refine hK.out _ _ ⟨⟨keepG ((Gr.refl wa79).alloc (.cells #[.bool false, .slice none 0 0] 24)) hH80.1.1, keepG ((Gr.refl wa79).alloc (.cells #[.bool false, .slice none 0 0] 24)) hH80.1.2.1, keepG ((Gr.refl wa79).alloc (.cells #[.bool false, .slice none 0 0] 24)) hH80.1.2.2.1, keepG ((Gr.refl wa79).alloc (.cells #[.bool false, .slice none 0 0] 24)) hH80.1.2.2.2⟩, hH80.2.trans ((Gr.refl wa79).alloc (.cells #[.bool false, .slice none 0 0] 24))⟩ (fun hH119 => ?_)
      clear hK K
      (try simp only [Act.put, List.setIfInBounds_toArray, List.set_cons_zero, List.set_cons_succ])
      have b8_121 := blk1 wa79 (.cells #[.bool false, .slice none 0 0] 24)
      have gg120 := (Gr.refl wa79).alloc (.cells #[.bool false, .slice none 0 0] 24)
      have l8122 := hH80.2.size
      have W1_123 := W1_84.gr gg120
      clear W1_84
      have F1_124 := F1_85.gr gg120
      clear F1_85
      have b7_125 := keepO gg120 b7_82
      clear b7_82
      generalize wa79.alloc (.cells #[.bool false, .slice none 0 0] 24) = wa118 at *
      refine wpAnyH_ready (rs := [3]) (by kernel_rfl) (by simp) ?_
      refine AllReadyH.cons (o := ({ dst := some 22, op := Op.call { callee := Callee.value (Operand.func 17), args := #[Operand.tmp 21, Operand.const (Value.int IntKind.i64 20)], argTypes := #[36, 3] }, type := 24, pos := "outright.go:15", after := #[{ on := 2, ground := Ground.data }, { on := 1, ground := Ground.chain }], guard := none } : Oper)) rfl (fun K hK => ?_) AllReadyH.nil
      go_simp
      with_reducible refine (X2.out _ hH119.2).mono ?_
      rintro r wc126 ⟨tb, b2, m2, d2, R2, rfl, W2_129, F2_130, hRm, gg128⟩
      replace W2_129 := W2_129.out
      replace F2_130 := F2_130.out.low hH119.2.size
      refine hK.out _ _ ⟨⟨keepG gg128 hH119.1.1, keepG gg128 hH119.1.2.1, keepG gg128 hH119.1.2.2.1, keepG gg128 hH119.1.2.2.2⟩, hH119.2.trans gg128⟩ (fun hH127 => ?_)
      have hzwc126 := hH119.2.size
      clear hK K
      (try simp only [Act.put, List.setIfInBounds_toArray, List.set_cons_zero, List.set_cons_succ])
      have W1_131 := W1_123.gr gg128
      clear W1_123
      have F1_132 := F1_124.gr gg128
      clear F1_124
      have b7_133 := keepO gg128 b7_125
      clear b7_125
      have b8_134 := keepO gg128 b8_121
      clear b8_121
      refine wpAnyH_ready (rs := [6]) (by kernel_rfl) (by simp) ?_
      refine AllReadyH.cons (o := ({ dst := none, op := Op.store 24 (Operand.tmp 7) (Operand.tmp 20), type := 0, pos := "outright.go:15", after := #[{ on := 4, ground := Ground.data }, { on := 1, ground := Ground.data }, { on := 3, ground := Ground.chain }, { on := 0, ground := Ground.phase }, { on := 1, ground := Ground.phase }, { on := 2, ground := Ground.textOnly Departure.lateStores }, { on := 3, ground := Ground.textOnly Departure.lateStoresUnsure }, { on := 4, ground := Ground.phase }, { on := 5, ground := Ground.phase }], guard := none } : Oper)) rfl (fun K hK => ?_) AllReadyH.nil
      obtain ⟨t0', t1', u0', u1'⟩ := Out2.of b7_133
      go_simp
      refine hK.out _ _ ⟨⟨far2 (Nat.ne_of_gt (Nat.lt_of_lt_of_le hpA l783)) hH127.1.1, far2 (Nat.ne_of_gt (Nat.lt_of_lt_of_le hpA l783)) hH127.1.2.1, far2 (Nat.ne_of_gt (Nat.lt_of_lt_of_le hpB l783)) hH127.1.2.2.1, far2 (Nat.ne_of_gt (Nat.lt_of_lt_of_le hpB l783)) hH127.1.2.2.2⟩, ((hH127.2.setCell (p := ⟨_, 0, none⟩) l783 _).setCell (p := ⟨_, 1, none⟩) l783 _)⟩ (fun hS135 => ?_)
      clear hK K t0' t1' u0' u1'
      (try simp only [Act.put, List.setIfInBounds_toArray, List.set_cons_zero, List.set_cons_succ])
      have W1_136 := wh_set2 W1_131 F1_132 b7_133 (.bool false) (.slice b1 m1 d1) (by decide)
      have W2_137 := wh_set2 W2_129 F2_130 b7_133 (.bool false) (.slice b1 m1 d1) (by decide)
      have F1_138 := fresh_set2 F1_132 b7_133 (.bool false) (.slice b1 m1 d1) (by decide)
      have F2_139 := fresh_set2 F2_130 b7_133 (.bool false) (.slice b1 m1 d1) (by decide)
      have b8_140 := heap_far (q := wc1.heap.size) (i := 1) (v := (.slice b1 m1 d1)) (heap_far (q := wc1.heap.size) (i := 0) (v := (.bool false)) b8_134 (by omega)) (by omega)
      have n7_141 := put2_block b7_133 (.bool false) (.slice b1 m1 d1)
      clear W1_131 W2_129 F1_132 F2_130 b8_134 b7_133
      refine wpAnyH_ready (rs := [7]) (by kernel_rfl) (by simp) ?_
      refine AllReadyH.cons (o := ({ dst := none, op := Op.store 24 (Operand.tmp 8) (Operand.tmp 22), type := 0, pos := "outright.go:15", after := #[{ on := 5, ground := Ground.data }, { on := 3, ground := Ground.data }, { on := 6, ground := Ground.chain }, { on := 0, ground := Ground.phase }, { on := 1, ground := Ground.phase }, { on := 2, ground := Ground.phase }, { on := 3, ground := Ground.phase }, { on := 4, ground := Ground.phase }, { on := 5, ground := Ground.phase }, { on := 6, ground := Ground.phase }], guard := none } : Oper)) rfl (fun K hK => ?_) AllReadyH.nil
      obtain ⟨t0', t1', u0', u1'⟩ := Out2.of b8_140
      go_simp
      refine hK.out _ _ ⟨⟨far2 (Nat.ne_of_gt (Nat.lt_of_lt_of_le hpA l8122)) hS135.1.1, far2 (Nat.ne_of_gt (Nat.lt_of_lt_of_le hpA l8122)) hS135.1.2.1, far2 (Nat.ne_of_gt (Nat.lt_of_lt_of_le hpB l8122)) hS135.1.2.2.1, far2 (Nat.ne_of_gt (Nat.lt_of_lt_of_le hpB l8122)) hS135.1.2.2.2⟩, ((hS135.2.setCell (p := ⟨_, 0, none⟩) l8122 _).setCell (p := ⟨_, 1, none⟩) l8122 _)⟩ (fun hS142 => ?_)
      clear hK K t0' t1' u0' u1'
      (try simp only [Act.put, List.setIfInBounds_toArray, List.set_cons_zero, List.set_cons_succ])
      have W1_143 := wh_set2 W1_136 F1_138 b8_140 (.bool tb) (.slice b2 m2 d2) (by decide)
      have W2_144 := wh_set2 W2_137 F2_139 b8_140 (.bool tb) (.slice b2 m2 d2) (by decide)
      have F1_145 := fresh_set2 F1_138 b8_140 (.bool tb) (.slice b2 m2 d2) (by decide)
      have F2_146 := fresh_set2 F2_139 b8_140 (.bool tb) (.slice b2 m2 d2) (by decide)
      have n7_147 := heap_far (q := wa79.heap.size) (i := 1) (v := (.slice b2 m2 d2)) (heap_far (q := wa79.heap.size) (i := 0) (v := (.bool tb)) n7_141 (by omega)) (by omega)
      have n8_148 := put2_block b8_140 (.bool tb) (.slice b2 m2 d2)
      clear W1_136 W2_137 F1_138 F2_139 n7_141 b8_140
      refine wpAnyH_done (by kernel_rfl) ?_ _
      exact ⟨_, _, _, _, _, _, b1, m1, d1, D, tb, b2, m2, d2, R2, rfl, n7_147, n8_148, hD, W1_143, F1_145, hDm.out, W2_144, F2_146, hRm.out, hS142.2⟩
    refine AllReadyH.cons (o := ({ dst := some 8, op := Op.alloc 24, type := 0, pos := "outright.go:15", after := #[], guard := none } : Oper)) rfl (fun K hK => ?_) AllReadyH.nil
    go_simp
    refine hK.out _ _ ⟨⟨keepG ((Gr.refl wc1).alloc (.cells #[.bool false, .slice none 0 0] 24)) hH2.1.1, keepG ((Gr.refl wc1).alloc (.cells #[.bool false, .slice none 0 0] 24)) hH2.1.2.1, keepG ((Gr.refl wc1).alloc (.cells #[.bool false, .slice none 0 0] 24)) hH2.1.2.2.1, keepG ((Gr.refl wc1).alloc (.cells #[.bool false, .slice none 0 0] 24)) hH2.1.2.2.2⟩, hH2.2.trans ((Gr.refl wc1).alloc (.cells #[.bool false, .slice none 0 0] 24))⟩ (fun hH150 => ?_)
    clear hK K
    (try simp only [Act.put, List.setIfInBounds_toArray, List.set_cons_zero, List.set_cons_succ])
    have b8_152 := blk1 wc1 (.cells #[.bool false, .slice none 0 0] 24)
    have gg151 := (Gr.refl wc1).alloc (.cells #[.bool false, .slice none 0 0] 24)
    have l8153 := hH2.2.size
    have W1_154 := W1_4.gr gg151
    clear W1_4
    have F1_155 := F1_5.gr gg151
    clear F1_5
    generalize wc1.alloc (.cells #[.bool false, .slice none 0 0] 24) = wa149 at *
    refine wpAnyH_ready (rs := [3, 4]) (by kernel_rfl) (by simp) ?_
    refine AllReadyH.cons (o := ({ dst := some 22, op := Op.call { callee := Callee.value (Operand.func 17), args := #[Operand.tmp 21, Operand.const (Value.int IntKind.i64 20)], argTypes := #[36, 3] }, type := 24, pos := "outright.go:15", after := #[{ on := 2, ground := Ground.data }, { on := 1, ground := Ground.chain }], guard := none } : Oper)) rfl (fun K hK => ?_) ?_
    · go_simp
      with_reducible refine (X2.out _ hH150.2).mono ?_
      rintro r wc156 ⟨tb, b2, m2, d2, R2, rfl, W2_159, F2_160, hRm, gg158⟩
      replace W2_159 := W2_159.out
      replace F2_160 := F2_160.out.low hH150.2.size
      refine hK.out _ _ ⟨⟨keepG gg158 hH150.1.1, keepG gg158 hH150.1.2.1, keepG gg158 hH150.1.2.2.1, keepG gg158 hH150.1.2.2.2⟩, hH150.2.trans gg158⟩ (fun hH157 => ?_)
      have hzwc156 := hH150.2.size
      clear hK K
      (try simp only [Act.put, List.setIfInBounds_toArray, List.set_cons_zero, List.set_cons_succ])
      have W1_161 := W1_154.gr gg158
      clear W1_154
      have F1_162 := F1_155.gr gg158
      clear F1_155
      have b8_163 := keepO gg158 b8_152
      clear b8_152
      refine wpAnyH_ready (rs := [4]) (by kernel_rfl) (by simp) ?_
      refine AllReadyH.cons (o := ({ dst := some 7, op := Op.alloc 24, type := 0, pos := "outright.go:15", after := #[], guard := none } : Oper)) rfl (fun K hK => ?_) AllReadyH.nil
      have lt7b8 := lt_of_get2 b8_163
      go_simp
      refine hK.out _ _ ⟨⟨keepG ((Gr.refl wc156).alloc (.cells #[.bool false, .slice none 0 0] 24)) hH157.1.1, keepG ((Gr.refl wc156).alloc (.cells #[.bool false, .slice none 0 0] 24)) hH157.1.2.1, keepG ((Gr.refl wc156).alloc (.cells #[.bool false, .slice none 0 0] 24)) hH157.1.2.2.1, keepG ((Gr.refl wc156).alloc (.cells #[.bool false, .slice none 0 0] 24)) hH157.1.2.2.2⟩, hH157.2.trans ((Gr.refl wc156).alloc (.cells #[.bool false, .slice none 0 0] 24))⟩ (fun hH165 => ?_)
      clear hK K
      (try simp only [Act.put, List.setIfInBounds_toArray, List.set_cons_zero, List.set_cons_succ])
      have b7_167 := blk1 wc156 (.cells #[.bool false, .slice none 0 0] 24)
      have gg166 := (Gr.refl wc156).alloc (.cells #[.bool false, .slice none 0 0] 24)
      have l7168 := hH157.2.size
      have W1_169 := W1_161.gr gg166
      clear W1_161
      have F1_170 := F1_162.gr gg166
      clear F1_162
      have b8_171 := keepO gg166 b8_163
      clear b8_163
      have W2_172 := W2_159.gr gg166
      clear W2_159
      have F2_173 := F2_160.gr gg166
      clear F2_160
      generalize wc156.alloc (.cells #[.bool false, .slice none 0 0] 24) = wa164 at *
      refine wpAnyH_ready (rs := [6]) (by kernel_rfl) (by simp) ?_
      refine AllReadyH.cons (o := ({ dst := none, op := Op.store 24 (Operand.tmp 7) (Operand.tmp 20), type := 0, pos := "outright.go:15", after := #[{ on := 4, ground := Ground.data }, { on := 1, ground := Ground.data }, { on := 3, ground := Ground.chain }, { on := 0, ground := Ground.phase }, { on := 1, ground := Ground.phase }, { on := 2, ground := Ground.textOnly Departure.lateStores }, { on := 3, ground := Ground.textOnly Departure.lateStoresUnsure }, { on := 4, ground := Ground.phase }, { on := 5, ground := Ground.phase }], guard := none } : Oper)) rfl (fun K hK => ?_) AllReadyH.nil
      obtain ⟨t0', t1', u0', u1'⟩ := Out2.of b7_167
      go_simp
      refine hK.out _ _ ⟨⟨far2 (Nat.ne_of_gt (Nat.lt_of_lt_of_le hpA l7168)) hH165.1.1, far2 (Nat.ne_of_gt (Nat.lt_of_lt_of_le hpA l7168)) hH165.1.2.1, far2 (Nat.ne_of_gt (Nat.lt_of_lt_of_le hpB l7168)) hH165.1.2.2.1, far2 (Nat.ne_of_gt (Nat.lt_of_lt_of_le hpB l7168)) hH165.1.2.2.2⟩, ((hH165.2.setCell (p := ⟨_, 0, none⟩) l7168 _).setCell (p := ⟨_, 1, none⟩) l7168 _)⟩ (fun hS174 => ?_)
      clear hK K t0' t1' u0' u1'
      (try simp only [Act.put, List.setIfInBounds_toArray, List.set_cons_zero, List.set_cons_succ])
      have W1_175 := wh_set2 W1_169 F1_170 b7_167 (.bool false) (.slice b1 m1 d1) (by decide)
      have W2_176 := wh_set2 W2_172 F2_173 b7_167 (.bool false) (.slice b1 m1 d1) (by decide)
      have F1_177 := fresh_set2 F1_170 b7_167 (.bool false) (.slice b1 m1 d1) (by decide)
      have F2_178 := fresh_set2 F2_173 b7_167 (.bool false) (.slice b1 m1 d1) (by decide)
      have b8_179 := heap_far (q := wc156.heap.size) (i := 1) (v := (.slice b1 m1 d1)) (heap_far (q := wc156.heap.size) (i := 0) (v := (.bool false)) b8_171 (by omega)) (by omega)
      have n7_180 := put2_block b7_167 (.bool false) (.slice b1 m1 d1)
      clear W1_169 W2_172 F1_170 F2_173 b8_171 b7_167
      refine wpAnyH_ready (rs := [7]) (by kernel_rfl) (by simp) ?_
      refine AllReadyH.cons (o := ({ dst := none, op := Op.store 24 (Operand.tmp 8) (Operand.tmp 22), type := 0, pos := "outright.go:15", after := #[{ on := 5, ground := Ground.data }, { on := 3, ground := Ground.data }, { on := 6, ground := Ground.chain }, { on := 0, ground := Ground.phase }, { on := 1, ground := Ground.phase }, { on := 2, ground := Ground.phase }, { on := 3, ground := Ground.phase }, { on := 4, ground := Ground.phase }, { on := 5, ground := Ground.phase }, { on := 6, ground := Ground.phase }], guard := none } : Oper)) rfl (fun K hK => ?_) AllReadyH.nil
      obtain ⟨t0', t1', u0', u1'⟩ := Out2.of b8_179
      go_simp
      refine hK.out _ _ ⟨⟨far2 (Nat.ne_of_gt (Nat.lt_of_lt_of_le hpA l8153)) hS174.1.1, far2 (Nat.ne_of_gt (Nat.lt_of_lt_of_le hpA l8153)) hS174.1.2.1, far2 (Nat.ne_of_gt (Nat.lt_of_lt_of_le hpB l8153)) hS174.1.2.2.1, far2 (Nat.ne_of_gt (Nat.lt_of_lt_of_le hpB l8153)) hS174.1.2.2.2⟩, ((hS174.2.setCell (p := ⟨_, 0, none⟩) l8153 _).setCell (p := ⟨_, 1, none⟩) l8153 _)⟩ (fun hS181 => ?_)
      clear hK K t0' t1' u0' u1'
      (try simp only [Act.put, List.setIfInBounds_toArray, List.set_cons_zero, List.set_cons_succ])
      have W1_182 := wh_set2 W1_175 F1_177 b8_179 (.bool tb) (.slice b2 m2 d2) (by decide)
      have W2_183 := wh_set2 W2_176 F2_178 b8_179 (.bool tb) (.slice b2 m2 d2) (by decide)
      have F1_184 := fresh_set2 F1_177 b8_179 (.bool tb) (.slice b2 m2 d2) (by decide)
      have F2_185 := fresh_set2 F2_178 b8_179 (.bool tb) (.slice b2 m2 d2) (by decide)
      have n7_186 := heap_far (q := wc1.heap.size) (i := 1) (v := (.slice b2 m2 d2)) (heap_far (q := wc1.heap.size) (i := 0) (v := (.bool tb)) n7_180 (by omega)) (by omega)
      have n8_187 := put2_block b8_179 (.bool tb) (.slice b2 m2 d2)
      clear W1_175 W2_176 F1_177 F2_178 n7_180 b8_179
      refine wpAnyH_done (by kernel_rfl) ?_ _
      exact ⟨_, _, _, _, _, _, b1, m1, d1, D, tb, b2, m2, d2, R2, rfl, n7_186, n8_187, hD, W1_182, F1_184, hDm.out, W2_183, F2_185, hRm.out, hS181.2⟩
    refine AllReadyH.cons (o := ({ dst := some 7, op := Op.alloc 24, type := 0, pos := "outright.go:15", after := #[], guard := none } : Oper)) rfl (fun K hK => ?_) AllReadyH.nil
    have lt7b8 := lt_of_get2 b8_152
    go_simp
    refine hK.out _ _ ⟨⟨keepG ((Gr.refl wa149).alloc (.cells #[.bool false, .slice none 0 0] 24)) hH150.1.1, keepG ((Gr.refl wa149).alloc (.cells #[.bool false, .slice none 0 0] 24)) hH150.1.2.1, keepG ((Gr.refl wa149).alloc (.cells #[.bool false, .slice none 0 0] 24)) hH150.1.2.2.1, keepG ((Gr.refl wa149).alloc (.cells #[.bool false, .slice none 0 0] 24)) hH150.1.2.2.2⟩, hH150.2.trans ((Gr.refl wa149).alloc (.cells #[.bool false, .slice none 0 0] 24))⟩ (fun hH189 => ?_)
    clear hK K
    (try simp only [Act.put, List.setIfInBounds_toArray, List.set_cons_zero, List.set_cons_succ])
    have b7_191 := blk1 wa149 (.cells #[.bool false, .slice none 0 0] 24)
    have gg190 := (Gr.refl wa149).alloc (.cells #[.bool false, .slice none 0 0] 24)
    have l7192 := hH150.2.size
    have W1_193 := W1_154.gr gg190
    clear W1_154
    have F1_194 := F1_155.gr gg190
    clear F1_155
    have b8_195 := keepO gg190 b8_152
    clear b8_152
    generalize wa149.alloc (.cells #[.bool false, .slice none 0 0] 24) = wa188 at *
    refine wpAnyH_ready (rs := [3]) (by kernel_rfl) (by simp) ?_
    refine AllReadyH.cons (o := ({ dst := some 22, op := Op.call { callee := Callee.value (Operand.func 17), args := #[Operand.tmp 21, Operand.const (Value.int IntKind.i64 20)], argTypes := #[36, 3] }, type := 24, pos := "outright.go:15", after := #[{ on := 2, ground := Ground.data }, { on := 1, ground := Ground.chain }], guard := none } : Oper)) rfl (fun K hK => ?_) AllReadyH.nil
    go_simp
    with_reducible refine (X2.out _ hH189.2).mono ?_
    rintro r wc196 ⟨tb, b2, m2, d2, R2, rfl, W2_199, F2_200, hRm, gg198⟩
    replace W2_199 := W2_199.out
    replace F2_200 := F2_200.out.low hH189.2.size
    refine hK.out _ _ ⟨⟨keepG gg198 hH189.1.1, keepG gg198 hH189.1.2.1, keepG gg198 hH189.1.2.2.1, keepG gg198 hH189.1.2.2.2⟩, hH189.2.trans gg198⟩ (fun hH197 => ?_)
    have hzwc196 := hH189.2.size
    clear hK K
    (try simp only [Act.put, List.setIfInBounds_toArray, List.set_cons_zero, List.set_cons_succ])
    have W1_201 := W1_193.gr gg198
    clear W1_193
    have F1_202 := F1_194.gr gg198
    clear F1_194
    have b8_203 := keepO gg198 b8_195
    clear b8_195
    have b7_204 := keepO gg198 b7_191
    clear b7_191
    refine wpAnyH_ready (rs := [6]) (by kernel_rfl) (by simp) ?_
    refine AllReadyH.cons (o := ({ dst := none, op := Op.store 24 (Operand.tmp 7) (Operand.tmp 20), type := 0, pos := "outright.go:15", after := #[{ on := 4, ground := Ground.data }, { on := 1, ground := Ground.data }, { on := 3, ground := Ground.chain }, { on := 0, ground := Ground.phase }, { on := 1, ground := Ground.phase }, { on := 2, ground := Ground.textOnly Departure.lateStores }, { on := 3, ground := Ground.textOnly Departure.lateStoresUnsure }, { on := 4, ground := Ground.phase }, { on := 5, ground := Ground.phase }], guard := none } : Oper)) rfl (fun K hK => ?_) AllReadyH.nil
    obtain ⟨t0', t1', u0', u1'⟩ := Out2.of b7_204
    go_simp
    refine hK.out _ _ ⟨⟨far2 (Nat.ne_of_gt (Nat.lt_of_lt_of_le hpA l7192)) hH197.1.1, far2 (Nat.ne_of_gt (Nat.lt_of_lt_of_le hpA l7192)) hH197.1.2.1, far2 (Nat.ne_of_gt (Nat.lt_of_lt_of_le hpB l7192)) hH197.1.2.2.1, far2 (Nat.ne_of_gt (Nat.lt_of_lt_of_le hpB l7192)) hH197.1.2.2.2⟩, ((hH197.2.setCell (p := ⟨_, 0, none⟩) l7192 _).setCell (p := ⟨_, 1, none⟩) l7192 _)⟩ (fun hS205 => ?_)
    clear hK K t0' t1' u0' u1'
    (try simp only [Act.put, List.setIfInBounds_toArray, List.set_cons_zero, List.set_cons_succ])
    have W1_206 := wh_set2 W1_201 F1_202 b7_204 (.bool false) (.slice b1 m1 d1) (by decide)
    have W2_207 := wh_set2 W2_199 F2_200 b7_204 (.bool false) (.slice b1 m1 d1) (by decide)
    have F1_208 := fresh_set2 F1_202 b7_204 (.bool false) (.slice b1 m1 d1) (by decide)
    have F2_209 := fresh_set2 F2_200 b7_204 (.bool false) (.slice b1 m1 d1) (by decide)
    have b8_210 := heap_far (q := wa149.heap.size) (i := 1) (v := (.slice b1 m1 d1)) (heap_far (q := wa149.heap.size) (i := 0) (v := (.bool false)) b8_203 (by omega)) (by omega)
    have n7_211 := put2_block b7_204 (.bool false) (.slice b1 m1 d1)
    clear W1_201 W2_199 F1_202 F2_200 b8_203 b7_204
    refine wpAnyH_ready (rs := [7]) (by kernel_rfl) (by simp) ?_
    refine AllReadyH.cons (o := ({ dst := none, op := Op.store 24 (Operand.tmp 8) (Operand.tmp 22), type := 0, pos := "outright.go:15", after := #[{ on := 5, ground := Ground.data }, { on := 3, ground := Ground.data }, { on := 6, ground := Ground.chain }, { on := 0, ground := Ground.phase }, { on := 1, ground := Ground.phase }, { on := 2, ground := Ground.phase }, { on := 3, ground := Ground.phase }, { on := 4, ground := Ground.phase }, { on := 5, ground := Ground.phase }, { on := 6, ground := Ground.phase }], guard := none } : Oper)) rfl (fun K hK => ?_) AllReadyH.nil
    obtain ⟨t0', t1', u0', u1'⟩ := Out2.of b8_210
    go_simp
    refine hK.out _ _ ⟨⟨far2 (Nat.ne_of_gt (Nat.lt_of_lt_of_le hpA l8153)) hS205.1.1, far2 (Nat.ne_of_gt (Nat.lt_of_lt_of_le hpA l8153)) hS205.1.2.1, far2 (Nat.ne_of_gt (Nat.lt_of_lt_of_le hpB l8153)) hS205.1.2.2.1, far2 (Nat.ne_of_gt (Nat.lt_of_lt_of_le hpB l8153)) hS205.1.2.2.2⟩, ((hS205.2.setCell (p := ⟨_, 0, none⟩) l8153 _).setCell (p := ⟨_, 1, none⟩) l8153 _)⟩ (fun hS212 => ?_)
    clear hK K t0' t1' u0' u1'
    (try simp only [Act.put, List.setIfInBounds_toArray, List.set_cons_zero, List.set_cons_succ])
    have W1_213 := wh_set2 W1_206 F1_208 b8_210 (.bool tb) (.slice b2 m2 d2) (by decide)
    have W2_214 := wh_set2 W2_207 F2_209 b8_210 (.bool tb) (.slice b2 m2 d2) (by decide)
    have F1_215 := fresh_set2 F1_208 b8_210 (.bool tb) (.slice b2 m2 d2) (by decide)
    have F2_216 := fresh_set2 F2_209 b8_210 (.bool tb) (.slice b2 m2 d2) (by decide)
    have n7_217 := heap_far (q := wc1.heap.size) (i := 1) (v := (.slice b2 m2 d2)) (heap_far (q := wc1.heap.size) (i := 0) (v := (.bool tb)) n7_211 (by omega)) (by omega)
    have n8_218 := put2_block b8_210 (.bool tb) (.slice b2 m2 d2)
    clear W1_206 W2_207 F1_208 F2_209 n7_211 b8_210
    refine wpAnyH_done (by kernel_rfl) ?_ _
    exact ⟨_, _, _, _, _, _, b1, m1, d1, D, tb, b2, m2, d2, R2, rfl, n7_217, n8_218, hD, W1_213, F1_215, hDm.out, W2_214, F2_216, hRm.out, hS212.2⟩
  refine AllReadyH.cons (o := ({ dst := some 7, op := Op.alloc 24, type := 0, pos := "outright.go:15", after := #[], guard := none } : Oper)) rfl (fun K hK => ?_) ?_
  · go_simp
    refine hK.out _ _ ⟨⟨keepG ((Gr.refl wd).alloc (.cells #[.bool false, .slice none 0 0] 24)) hHeld.1.1, keepG ((Gr.refl wd).alloc (.cells #[.bool false, .slice none 0 0] 24)) hHeld.1.2.1, keepG ((Gr.refl wd).alloc (.cells #[.bool false, .slice none 0 0] 24)) hHeld.1.2.2.1, keepG ((Gr.refl wd).alloc (.cells #[.bool false, .slice none 0 0] 24)) hHeld.1.2.2.2⟩, hHeld.2.trans ((Gr.refl wd).alloc (.cells #[.bool false, .slice none 0 0] 24))⟩ (fun hH220 => ?_)
    clear hK K
    (try simp only [Act.put, List.setIfInBounds_toArray, List.set_cons_zero, List.set_cons_succ])
    have b7_222 := blk1 wd (.cells #[.bool false, .slice none 0 0] 24)
    have gg221 := (Gr.refl wd).alloc (.cells #[.bool false, .slice none 0 0] 24)
    have l7223 := hHeld.2.size
    generalize wd.alloc (.cells #[.bool false, .slice none 0 0] 24) = wa219 at *
    refine wpAnyH_ready (rs := [1, 5]) (by kernel_rfl) (by simp) ?_
    refine AllReadyH.cons (o := ({ dst := some 20, op := Op.call { callee := Callee.value (Operand.func 16), args := #[Operand.tmp 19, Operand.const (Value.int IntKind.i64 20)], argTypes := #[36, 3] }, type := 24, pos := "outright.go:15", after := #[{ on := 0, ground := Ground.data }], guard := none } : Oper)) rfl (fun K hK => ?_) ?_
    · go_simp
      with_reducible refine (X1.out _ hH220.2).mono ?_
      rintro r wc224 ⟨b1, m1, d1, D, rfl, hD, W1_227, F1_228, hDm, gg226⟩
      replace W1_227 := W1_227.out
      replace F1_228 := F1_228.out.low hH220.2.size
      refine hK.out _ _ ⟨⟨keepG gg226 hH220.1.1, keepG gg226 hH220.1.2.1, keepG gg226 hH220.1.2.2.1, keepG gg226 hH220.1.2.2.2⟩, hH220.2.trans gg226⟩ (fun hH225 => ?_)
      have hzwc224 := hH220.2.size
      clear hK K
      (try simp only [Act.put, List.setIfInBounds_toArray, List.set_cons_zero, List.set_cons_succ])
      have b7_229 := keepO gg226 b7_222
      clear b7_222
      refine wpAnyH_ready (rs := [3, 5]) (by kernel_rfl) (by simp) ?_
      refine AllReadyH.cons (o := ({ dst := some 22, op := Op.call { callee := Callee.value (Operand.func 17), args := #[Operand.tmp 21, Operand.const (Value.int IntKind.i64 20)], argTypes := #[36, 3] }, type := 24, pos := "outright.go:15", after := #[{ on := 2, ground := Ground.data }, { on := 1, ground := Ground.chain }], guard := none } : Oper)) rfl (fun K hK => ?_) ?_
      · go_simp
        with_reducible refine (X2.out _ hH225.2).mono ?_
        rintro r wc230 ⟨tb, b2, m2, d2, R2, rfl, W2_233, F2_234, hRm, gg232⟩
        replace W2_233 := W2_233.out
        replace F2_234 := F2_234.out.low hH225.2.size
        refine hK.out _ _ ⟨⟨keepG gg232 hH225.1.1, keepG gg232 hH225.1.2.1, keepG gg232 hH225.1.2.2.1, keepG gg232 hH225.1.2.2.2⟩, hH225.2.trans gg232⟩ (fun hH231 => ?_)
        have hzwc230 := hH225.2.size
        clear hK K
        (try simp only [Act.put, List.setIfInBounds_toArray, List.set_cons_zero, List.set_cons_succ])
        have b7_235 := keepO gg232 b7_229
        clear b7_229
        have W1_236 := W1_227.gr gg232
        clear W1_227
        have F1_237 := F1_228.gr gg232
        clear F1_228
        refine wpAnyH_ready (rs := [5]) (by kernel_rfl) (by simp) ?_
        refine AllReadyH.cons (o := ({ dst := some 8, op := Op.alloc 24, type := 0, pos := "outright.go:15", after := #[], guard := none } : Oper)) rfl (fun K hK => ?_) AllReadyH.nil
        have lt8b7 := lt_of_get2 b7_235
        go_simp
        refine hK.out _ _ ⟨⟨keepG ((Gr.refl wc230).alloc (.cells #[.bool false, .slice none 0 0] 24)) hH231.1.1, keepG ((Gr.refl wc230).alloc (.cells #[.bool false, .slice none 0 0] 24)) hH231.1.2.1, keepG ((Gr.refl wc230).alloc (.cells #[.bool false, .slice none 0 0] 24)) hH231.1.2.2.1, keepG ((Gr.refl wc230).alloc (.cells #[.bool false, .slice none 0 0] 24)) hH231.1.2.2.2⟩, hH231.2.trans ((Gr.refl wc230).alloc (.cells #[.bool false, .slice none 0 0] 24))⟩ (fun hH239 => ?_)
        clear hK K
        (try simp only [Act.put, List.setIfInBounds_toArray, List.set_cons_zero, List.set_cons_succ])
        have b8_241 := blk1 wc230 (.cells #[.bool false, .slice none 0 0] 24)
        have gg240 := (Gr.refl wc230).alloc (.cells #[.bool false, .slice none 0 0] 24)
        have l8242 := hH231.2.size
        have b7_243 := keepO gg240 b7_235
        clear b7_235
        have W1_244 := W1_236.gr gg240
        clear W1_236
        have F1_245 := F1_237.gr gg240
        clear F1_237
        have W2_246 := W2_233.gr gg240
        clear W2_233
        have F2_247 := F2_234.gr gg240
        clear F2_234
        generalize wc230.alloc (.cells #[.bool false, .slice none 0 0] 24) = wa238 at *
        refine wpAnyH_ready (rs := [6]) (by kernel_rfl) (by simp) ?_
        refine AllReadyH.cons (o := ({ dst := none, op := Op.store 24 (Operand.tmp 7) (Operand.tmp 20), type := 0, pos := "outright.go:15", after := #[{ on := 4, ground := Ground.data }, { on := 1, ground := Ground.data }, { on := 3, ground := Ground.chain }, { on := 0, ground := Ground.phase }, { on := 1, ground := Ground.phase }, { on := 2, ground := Ground.textOnly Departure.lateStores }, { on := 3, ground := Ground.textOnly Departure.lateStoresUnsure }, { on := 4, ground := Ground.phase }, { on := 5, ground := Ground.phase }], guard := none } : Oper)) rfl (fun K hK => ?_) AllReadyH.nil
        obtain ⟨t0', t1', u0', u1'⟩ := Out2.of b7_243
        go_simp
        refine hK.out _ _ ⟨⟨far2 (Nat.ne_of_gt (Nat.lt_of_lt_of_le hpA l7223)) hH239.1.1, far2 (Nat.ne_of_gt (Nat.lt_of_lt_of_le hpA l7223)) hH239.1.2.1, far2 (Nat.ne_of_gt (Nat.lt_of_lt_of_le hpB l7223)) hH239.1.2.2.1, far2 (Nat.ne_of_gt (Nat.lt_of_lt_of_le hpB l7223)) hH239.1.2.2.2⟩, ((hH239.2.setCell (p := ⟨_, 0, none⟩) l7223 _).setCell (p := ⟨_, 1, none⟩) l7223 _)⟩ (fun hS248 => ?_)
        clear hK K t0' t1' u0' u1'
        (try simp only [Act.put, List.setIfInBounds_toArray, List.set_cons_zero, List.set_cons_succ])
        have W1_249 := wh_set2 W1_244 F1_245 b7_243 (.bool false) (.slice b1 m1 d1) (by decide)
        have W2_250 := wh_set2 W2_246 F2_247 b7_243 (.bool false) (.slice b1 m1 d1) (by decide)
        have F1_251 := fresh_set2 F1_245 b7_243 (.bool false) (.slice b1 m1 d1) (by decide)
        have F2_252 := fresh_set2 F2_247 b7_243 (.bool false) (.slice b1 m1 d1) (by decide)
        have b8_253 := heap_far (q := wd.heap.size) (i := 1) (v := (.slice b1 m1 d1)) (heap_far (q := wd.heap.size) (i := 0) (v := (.bool false)) b8_241 (by omega)) (by omega)
        have n7_254 := put2_block b7_243 (.bool false) (.slice b1 m1 d1)
        clear W1_244 W2_246 F1_245 F2_247 b8_241 b7_243
        refine wpAnyH_ready (rs := [7]) (by kernel_rfl) (by simp) ?_
        refine AllReadyH.cons (o := ({ dst := none, op := Op.store 24 (Operand.tmp 8) (Operand.tmp 22), type := 0, pos := "outright.go:15", after := #[{ on := 5, ground := Ground.data }, { on := 3, ground := Ground.data }, { on := 6, ground := Ground.chain }, { on := 0, ground := Ground.phase }, { on := 1, ground := Ground.phase }, { on := 2, ground := Ground.phase }, { on := 3, ground := Ground.phase }, { on := 4, ground := Ground.phase }, { on := 5, ground := Ground.phase }, { on := 6, ground := Ground.phase }], guard := none } : Oper)) rfl (fun K hK => ?_) AllReadyH.nil
        obtain ⟨t0', t1', u0', u1'⟩ := Out2.of b8_253
        go_simp
        refine hK.out _ _ ⟨⟨far2 (Nat.ne_of_gt (Nat.lt_of_lt_of_le hpA l8242)) hS248.1.1, far2 (Nat.ne_of_gt (Nat.lt_of_lt_of_le hpA l8242)) hS248.1.2.1, far2 (Nat.ne_of_gt (Nat.lt_of_lt_of_le hpB l8242)) hS248.1.2.2.1, far2 (Nat.ne_of_gt (Nat.lt_of_lt_of_le hpB l8242)) hS248.1.2.2.2⟩, ((hS248.2.setCell (p := ⟨_, 0, none⟩) l8242 _).setCell (p := ⟨_, 1, none⟩) l8242 _)⟩ (fun hS255 => ?_)
        clear hK K t0' t1' u0' u1'
        (try simp only [Act.put, List.setIfInBounds_toArray, List.set_cons_zero, List.set_cons_succ])
        have W1_256 := wh_set2 W1_249 F1_251 b8_253 (.bool tb) (.slice b2 m2 d2) (by decide)
        have W2_257 := wh_set2 W2_250 F2_252 b8_253 (.bool tb) (.slice b2 m2 d2) (by decide)
        have F1_258 := fresh_set2 F1_251 b8_253 (.bool tb) (.slice b2 m2 d2) (by decide)
        have F2_259 := fresh_set2 F2_252 b8_253 (.bool tb) (.slice b2 m2 d2) (by decide)
        have n7_260 := heap_far (q := wc230.heap.size) (i := 1) (v := (.slice b2 m2 d2)) (heap_far (q := wc230.heap.size) (i := 0) (v := (.bool tb)) n7_254 (by omega)) (by omega)
        have n8_261 := put2_block b8_253 (.bool tb) (.slice b2 m2 d2)
        clear W1_249 W2_250 F1_251 F2_252 n7_254 b8_253
        refine wpAnyH_done (by kernel_rfl) ?_ _
        exact ⟨_, _, _, _, _, _, b1, m1, d1, D, tb, b2, m2, d2, R2, rfl, n7_260, n8_261, hD, W1_256, F1_258, hDm.out, W2_257, F2_259, hRm.out, hS255.2⟩
      refine AllReadyH.cons (o := ({ dst := some 8, op := Op.alloc 24, type := 0, pos := "outright.go:15", after := #[], guard := none } : Oper)) rfl (fun K hK => ?_) AllReadyH.nil
      have lt8b7 := lt_of_get2 b7_229
      go_simp
      refine hK.out _ _ ⟨⟨keepG ((Gr.refl wc224).alloc (.cells #[.bool false, .slice none 0 0] 24)) hH225.1.1, keepG ((Gr.refl wc224).alloc (.cells #[.bool false, .slice none 0 0] 24)) hH225.1.2.1, keepG ((Gr.refl wc224).alloc (.cells #[.bool false, .slice none 0 0] 24)) hH225.1.2.2.1, keepG ((Gr.refl wc224).alloc (.cells #[.bool false, .slice none 0 0] 24)) hH225.1.2.2.2⟩, hH225.2.trans ((Gr.refl wc224).alloc (.cells #[.bool false, .slice none 0 0] 24))⟩ (fun hH263 => ?_)
      clear hK K
      (try simp only [Act.put, List.setIfInBounds_toArray, List.set_cons_zero, List.set_cons_succ])
      have b8_265 := blk1 wc224 (.cells #[.bool false, .slice none 0 0] 24)
      have gg264 := (Gr.refl wc224).alloc (.cells #[.bool false, .slice none 0 0] 24)
      have l8266 := hH225.2.size
      have b7_267 := keepO gg264 b7_229
      clear b7_229
      have W1_268 := W1_227.gr gg264
      clear W1_227
      have F1_269 := F1_228.gr gg264
      clear F1_228
      generalize wc224.alloc (.cells #[.bool false, .slice none 0 0] 24) = wa262 at *
      refine wpAnyH_ready (rs := [3]) (by kernel_rfl) (by simp) ?_
      refine AllReadyH.cons (o := ({ dst := some 22, op := Op.call { callee := Callee.value (Operand.func 17), args := #[Operand.tmp 21, Operand.const (Value.int IntKind.i64 20)], argTypes := #[36, 3] }, type := 24, pos := "outright.go:15", after := #[{ on := 2, ground := Ground.data }, { on := 1, ground := Ground.chain }], guard := none } : Oper)) rfl (fun K hK => ?_) AllReadyH.nil
      go_simp
      with_reducible refine (X2.out _ hH263.2).mono ?_
      rintro r wc270 ⟨tb, b2, m2, d2, R2, rfl, W2_273, F2_274, hRm, gg272⟩
      replace W2_273 := W2_273.out
      replace F2_274 := F2_274.out.low hH263.2.size
      refine hK.out _ _ ⟨⟨keepG gg272 hH263.1.1, keepG gg272 hH263.1.2.1, keepG gg272 hH263.1.2.2.1, keepG gg272 hH263.1.2.2.2⟩, hH263.2.trans gg272⟩ (fun hH271 => ?_)
      have hzwc270 := hH263.2.size
      clear hK K
      (try simp only [Act.put, List.setIfInBounds_toArray, List.set_cons_zero, List.set_cons_succ])
      have b7_275 := keepO gg272 b7_267
      clear b7_267
      have W1_276 := W1_268.gr gg272
      clear W1_268
      have F1_277 := F1_269.gr gg272
      clear F1_269
      have b8_278 := keepO gg272 b8_265
      clear b8_265
      refine wpAnyH_ready (rs := [6]) (by kernel_rfl) (by simp) ?_
      refine AllReadyH.cons (o := ({ dst := none, op := Op.store 24 (Operand.tmp 7) (Operand.tmp 20), type := 0, pos := "outright.go:15", after := #[{ on := 4, ground := Ground.data }, { on := 1, ground := Ground.data }, { on := 3, ground := Ground.chain }, { on := 0, ground := Ground.phase }, { on := 1, ground := Ground.phase }, { on := 2, ground := Ground.textOnly Departure.lateStores }, { on := 3, ground := Ground.textOnly Departure.lateStoresUnsure }, { on := 4, ground := Ground.phase }, { on := 5, ground := Ground.phase }], guard := none } : Oper)) rfl (fun K hK => ?_) AllReadyH.nil
      obtain ⟨t0', t1', u0', u1'⟩ := Out2.of b7_275
      go_simp
      refine hK.out _ _ ⟨⟨far2 (Nat.ne_of_gt (Nat.lt_of_lt_of_le hpA l7223)) hH271.1.1, far2 (Nat.ne_of_gt (Nat.lt_of_lt_of_le hpA l7223)) hH271.1.2.1, far2 (Nat.ne_of_gt (Nat.lt_of_lt_of_le hpB l7223)) hH271.1.2.2.1, far2 (Nat.ne_of_gt (Nat.lt_of_lt_of_le hpB l7223)) hH271.1.2.2.2⟩, ((hH271.2.setCell (p := ⟨_, 0, none⟩) l7223 _).setCell (p := ⟨_, 1, none⟩) l7223 _)⟩ (fun hS279 => ?_)
      clear hK K t0' t1' u0' u1'
      (try simp only [Act.put, List.setIfInBounds_toArray, List.set_cons_zero, List.set_cons_succ])
      have W1_280 := wh_set2 W1_276 F1_277 b7_275 (.bool false) (.slice b1 m1 d1) (by decide)
      have W2_281 := wh_set2 W2_273 F2_274 b7_275 (.bool false) (.slice b1 m1 d1) (by decide)
      have F1_282 := fresh_set2 F1_277 b7_275 (.bool false) (.slice b1 m1 d1) (by decide)
      have F2_283 := fresh_set2 F2_274 b7_275 (.bool false) (.slice b1 m1 d1) (by decide)
      have b8_284 := heap_far (q := wd.heap.size) (i := 1) (v := (.slice b1 m1 d1)) (heap_far (q := wd.heap.size) (i := 0) (v := (.bool false)) b8_278 (by omega)) (by omega)
      have n7_285 := put2_block b7_275 (.bool false) (.slice b1 m1 d1)
      clear W1_276 W2_273 F1_277 F2_274 b8_278 b7_275
      refine wpAnyH_ready (rs := [7]) (by kernel_rfl) (by simp) ?_
      refine AllReadyH.cons (o := ({ dst := none, op := Op.store 24 (Operand.tmp 8) (Operand.tmp 22), type := 0, pos := "outright.go:15", after := #[{ on := 5, ground := Ground.data }, { on := 3, ground := Ground.data }, { on := 6, ground := Ground.chain }, { on := 0, ground := Ground.phase }, { on := 1, ground := Ground.phase }, { on := 2, ground := Ground.phase }, { on := 3, ground := Ground.phase }, { on := 4, ground := Ground.phase }, { on := 5, ground := Ground.phase }, { on := 6, ground := Ground.phase }], guard := none } : Oper)) rfl (fun K hK => ?_) AllReadyH.nil
      obtain ⟨t0', t1', u0', u1'⟩ := Out2.of b8_284
      go_simp
      refine hK.out _ _ ⟨⟨far2 (Nat.ne_of_gt (Nat.lt_of_lt_of_le hpA l8266)) hS279.1.1, far2 (Nat.ne_of_gt (Nat.lt_of_lt_of_le hpA l8266)) hS279.1.2.1, far2 (Nat.ne_of_gt (Nat.lt_of_lt_of_le hpB l8266)) hS279.1.2.2.1, far2 (Nat.ne_of_gt (Nat.lt_of_lt_of_le hpB l8266)) hS279.1.2.2.2⟩, ((hS279.2.setCell (p := ⟨_, 0, none⟩) l8266 _).setCell (p := ⟨_, 1, none⟩) l8266 _)⟩ (fun hS286 => ?_)
      clear hK K t0' t1' u0' u1'
      (try simp only [Act.put, List.setIfInBounds_toArray, List.set_cons_zero, List.set_cons_succ])
      have W1_287 := wh_set2 W1_280 F1_282 b8_284 (.bool tb) (.slice b2 m2 d2) (by decide)
      have W2_288 := wh_set2 W2_281 F2_283 b8_284 (.bool tb) (.slice b2 m2 d2) (by decide)
      have F1_289 := fresh_set2 F1_282 b8_284 (.bool tb) (.slice b2 m2 d2) (by decide)
      have F2_290 := fresh_set2 F2_283 b8_284 (.bool tb) (.slice b2 m2 d2) (by decide)
      have n7_291 := heap_far (q := wc224.heap.size) (i := 1) (v := (.slice b2 m2 d2)) (heap_far (q := wc224.heap.size) (i := 0) (v := (.bool tb)) n7_285 (by omega)) (by omega)
      have n8_292 := put2_block b8_284 (.bool tb) (.slice b2 m2 d2)
      clear W1_280 W2_281 F1_282 F2_283 n7_285 b8_284
      refine wpAnyH_done (by kernel_rfl) ?_ _
      exact ⟨_, _, _, _, _, _, b1, m1, d1, D, tb, b2, m2, d2, R2, rfl, n7_291, n8_292, hD, W1_287, F1_289, hDm.out, W2_288, F2_290, hRm.out, hS286.2⟩
    refine AllReadyH.cons (o := ({ dst := some 8, op := Op.alloc 24, type := 0, pos := "outright.go:15", after := #[], guard := none } : Oper)) rfl (fun K hK => ?_) AllReadyH.nil
    have lt8b7 := lt_of_get2 b7_222
    go_simp
    refine hK.out _ _ ⟨⟨keepG ((Gr.refl wa219).alloc (.cells #[.bool false, .slice none 0 0] 24)) hH220.1.1, keepG ((Gr.refl wa219).alloc (.cells #[.bool false, .slice none 0 0] 24)) hH220.1.2.1, keepG ((Gr.refl wa219).alloc (.cells #[.bool false, .slice none 0 0] 24)) hH220.1.2.2.1, keepG ((Gr.refl wa219).alloc (.cells #[.bool false, .slice none 0 0] 24)) hH220.1.2.2.2⟩, hH220.2.trans ((Gr.refl wa219).alloc (.cells #[.bool false, .slice none 0 0] 24))⟩ (fun hH294 => ?_)
    clear hK K
    (try simp only [Act.put, List.setIfInBounds_toArray, List.set_cons_zero, List.set_cons_succ])
    have b8_296 := blk1 wa219 (.cells #[.bool false, .slice none 0 0] 24)
    have gg295 := (Gr.refl wa219).alloc (.cells #[.bool false, .slice none 0 0] 24)
    have l8297 := hH220.2.size
    have b7_298 := keepO gg295 b7_222
    clear b7_222
    generalize wa219.alloc (.cells #[.bool false, .slice none 0 0] 24) = wa293 at *
    refine wpAnyH_ready (rs := [1]) (by kernel_rfl) (by simp) ?_
    refine AllReadyH.cons (o := ({ dst := some 20, op := Op.call { callee := Callee.value (Operand.func 16), args := #[Operand.tmp 19, Operand.const (Value.int IntKind.i64 20)], argTypes := #[36, 3] }, type := 24, pos := "outright.go:15", after := #[{ on := 0, ground := Ground.data }], guard := none } : Oper)) rfl (fun K hK => ?_) AllReadyH.nil
    go_simp
    with_reducible refine (X1.out _ hH294.2).mono ?_
    rintro r wc299 ⟨b1, m1, d1, D, rfl, hD, W1_302, F1_303, hDm, gg301⟩
    replace W1_302 := W1_302.out
    replace F1_303 := F1_303.out.low hH294.2.size
    refine hK.out _ _ ⟨⟨keepG gg301 hH294.1.1, keepG gg301 hH294.1.2.1, keepG gg301 hH294.1.2.2.1, keepG gg301 hH294.1.2.2.2⟩, hH294.2.trans gg301⟩ (fun hH300 => ?_)
    have hzwc299 := hH294.2.size
    clear hK K
    (try simp only [Act.put, List.setIfInBounds_toArray, List.set_cons_zero, List.set_cons_succ])
    have b7_304 := keepO gg301 b7_298
    clear b7_298
    have b8_305 := keepO gg301 b8_296
    clear b8_296
    refine wpAnyH_ready (rs := [3]) (by kernel_rfl) (by simp) ?_
    refine AllReadyH.cons (o := ({ dst := some 22, op := Op.call { callee := Callee.value (Operand.func 17), args := #[Operand.tmp 21, Operand.const (Value.int IntKind.i64 20)], argTypes := #[36, 3] }, type := 24, pos := "outright.go:15", after := #[{ on := 2, ground := Ground.data }, { on := 1, ground := Ground.chain }], guard := none } : Oper)) rfl (fun K hK => ?_) AllReadyH.nil
    go_simp
    with_reducible refine (X2.out _ hH300.2).mono ?_
    rintro r wc306 ⟨tb, b2, m2, d2, R2, rfl, W2_309, F2_310, hRm, gg308⟩
    replace W2_309 := W2_309.out
    replace F2_310 := F2_310.out.low hH300.2.size
    refine hK.out _ _ ⟨⟨keepG gg308 hH300.1.1, keepG gg308 hH300.1.2.1, keepG gg308 hH300.1.2.2.1, keepG gg308 hH300.1.2.2.2⟩, hH300.2.trans gg308⟩ (fun hH307 => ?_)
    have hzwc306 := hH300.2.size
    clear hK K
    (try simp only [Act.put, List.setIfInBounds_toArray, List.set_cons_zero, List.set_cons_succ])
    have b7_311 := keepO gg308 b7_304
    clear b7_304
    have b8_312 := keepO gg308 b8_305
    clear b8_305
    have W1_313 := W1_302.gr gg308
    clear W1_302
    have F1_314 := F1_303.gr gg308
    clear F1_303
    refine wpAnyH_ready (rs := [6]) (by kernel_rfl) (by simp) ?_
    refine AllReadyH.cons (o := ({ dst := none, op := Op.store 24 (Operand.tmp 7) (Operand.tmp 20), type := 0, pos := "outright.go:15", after := #[{ on := 4, ground := Ground.data }, { on := 1, ground := Ground.data }, { on := 3, ground := Ground.chain }, { on := 0, ground := Ground.phase }, { on := 1, ground := Ground.phase }, { on := 2, ground := Ground.textOnly Departure.lateStores }, { on := 3, ground := Ground.textOnly Departure.lateStoresUnsure }, { on := 4, ground := Ground.phase }, { on := 5, ground := Ground.phase }], guard := none } : Oper)) rfl (fun K hK => ?_) AllReadyH.nil
    obtain ⟨t0', t1', u0', u1'⟩ := Out2.of b7_311
    go_simp
    refine hK.out _ _ ⟨⟨far2 (Nat.ne_of_gt (Nat.lt_of_lt_of_le hpA l7223)) hH307.1.1, far2 (Nat.ne_of_gt (Nat.lt_of_lt_of_le hpA l7223)) hH307.1.2.1, far2 (Nat.ne_of_gt (Nat.lt_of_lt_of_le hpB l7223)) hH307.1.2.2.1, far2 (Nat.ne_of_gt (Nat.lt_of_lt_of_le hpB l7223)) hH307.1.2.2.2⟩, ((hH307.2.setCell (p := ⟨_, 0, none⟩) l7223 _).setCell (p := ⟨_, 1, none⟩) l7223 _)⟩ (fun hS315 => ?_)
    clear hK K t0' t1' u0' u1'
    (try simp only [Act.put, List.setIfInBounds_toArray, List.set_cons_zero, List.set_cons_succ])
    have W1_316 := wh_set2 W1_313 F1_314 b7_311 (.bool false) (.slice b1 m1 d1) (by decide)
    have W2_317 := wh_set2 W2_309 F2_310 b7_311 (.bool false) (.slice b1 m1 d1) (by decide)
    have F1_318 := fresh_set2 F1_314 b7_311 (.bool false) (.slice b1 m1 d1) (by decide)
    have F2_319 := fresh_set2 F2_310 b7_311 (.bool false) (.slice b1 m1 d1) (by decide)
    have b8_320 := heap_far (q := wd.heap.size) (i := 1) (v := (.slice b1 m1 d1)) (heap_far (q := wd.heap.size) (i := 0) (v := (.bool false)) b8_312 (by omega)) (by omega)
    have n7_321 := put2_block b7_311 (.bool false) (.slice b1 m1 d1)
    clear W1_313 W2_309 F1_314 F2_310 b8_312 b7_311
    refine wpAnyH_ready (rs := [7]) (by kernel_rfl) (by simp) ?_
    refine AllReadyH.cons (o := ({ dst := none, op := Op.store 24 (Operand.tmp 8) (Operand.tmp 22), type := 0, pos := "outright.go:15", after := #[{ on := 5, ground := Ground.data }, { on := 3, ground := Ground.data }, { on := 6, ground := Ground.chain }, { on := 0, ground := Ground.phase }, { on := 1, ground := Ground.phase }, { on := 2, ground := Ground.phase }, { on := 3, ground := Ground.phase }, { on := 4, ground := Ground.phase }, { on := 5, ground := Ground.phase }, { on := 6, ground := Ground.phase }], guard := none } : Oper)) rfl (fun K hK => ?_) AllReadyH.nil
    obtain ⟨t0', t1', u0', u1'⟩ := Out2.of b8_320
    go_simp
    refine hK.out _ _ ⟨⟨far2 (Nat.ne_of_gt (Nat.lt_of_lt_of_le hpA l8297)) hS315.1.1, far2 (Nat.ne_of_gt (Nat.lt_of_lt_of_le hpA l8297)) hS315.1.2.1, far2 (Nat.ne_of_gt (Nat.lt_of_lt_of_le hpB l8297)) hS315.1.2.2.1, far2 (Nat.ne_of_gt (Nat.lt_of_lt_of_le hpB l8297)) hS315.1.2.2.2⟩, ((hS315.2.setCell (p := ⟨_, 0, none⟩) l8297 _).setCell (p := ⟨_, 1, none⟩) l8297 _)⟩ (fun hS322 => ?_)
    clear hK K t0' t1' u0' u1'
    (try simp only [Act.put, List.setIfInBounds_toArray, List.set_cons_zero, List.set_cons_succ])
    have W1_323 := wh_set2 W1_316 F1_318 b8_320 (.bool tb) (.slice b2 m2 d2) (by decide)
    have W2_324 := wh_set2 W2_317 F2_319 b8_320 (.bool tb) (.slice b2 m2 d2) (by decide)
    have F1_325 := fresh_set2 F1_318 b8_320 (.bool tb) (.slice b2 m2 d2) (by decide)
    have F2_326 := fresh_set2 F2_319 b8_320 (.bool tb) (.slice b2 m2 d2) (by decide)
    have n7_327 := heap_far (q := wa219.heap.size) (i := 1) (v := (.slice b2 m2 d2)) (heap_far (q := wa219.heap.size) (i := 0) (v := (.bool tb)) n7_321 (by omega)) (by omega)
    have n8_328 := put2_block b8_320 (.bool tb) (.slice b2 m2 d2)
    clear W1_316 W2_317 F1_318 F2_319 n7_321 b8_320
    refine wpAnyH_done (by kernel_rfl) ?_ _
    exact ⟨_, _, _, _, _, _, b1, m1, d1, D, tb, b2, m2, d2, R2, rfl, n7_327, n8_328, hD, W1_323, F1_325, hDm.out, W2_324, F2_326, hRm.out, hS322.2⟩
  refine AllReadyH.cons (o := ({ dst := some 8, op := Op.alloc 24, type := 0, pos := "outright.go:15", after := #[], guard := none } : Oper)) rfl (fun K hK => ?_) AllReadyH.nil
  go_simp
  refine hK.out _ _ ⟨⟨keepG ((Gr.refl wd).alloc (.cells #[.bool false, .slice none 0 0] 24)) hHeld.1.1, keepG ((Gr.refl wd).alloc (.cells #[.bool false, .slice none 0 0] 24)) hHeld.1.2.1, keepG ((Gr.refl wd).alloc (.cells #[.bool false, .slice none 0 0] 24)) hHeld.1.2.2.1, keepG ((Gr.refl wd).alloc (.cells #[.bool false, .slice none 0 0] 24)) hHeld.1.2.2.2⟩, hHeld.2.trans ((Gr.refl wd).alloc (.cells #[.bool false, .slice none 0 0] 24))⟩ (fun hH330 => ?_)
  clear hK K
  (try simp only [Act.put, List.setIfInBounds_toArray, List.set_cons_zero, List.set_cons_succ])
  have b8_332 := blk1 wd (.cells #[.bool false, .slice none 0 0] 24)
  have gg331 := (Gr.refl wd).alloc (.cells #[.bool false, .slice none 0 0] 24)
  have l8333 := hHeld.2.size
  generalize wd.alloc (.cells #[.bool false, .slice none 0 0] 24) = wa329 at *
  refine wpAnyH_ready (rs := [1, 4]) (by kernel_rfl) (by simp) ?_
  refine AllReadyH.cons (o := ({ dst := some 20, op := Op.call { callee := Callee.value (Operand.func 16), args := #[Operand.tmp 19, Operand.const (Value.int IntKind.i64 20)], argTypes := #[36, 3] }, type := 24, pos := "outright.go:15", after := #[{ on := 0, ground := Ground.data }], guard := none } : Oper)) rfl (fun K hK => ?_) ?_
  · go_simp
    with_reducible refine (X1.out _ hH330.2).mono ?_
    rintro r wc334 ⟨b1, m1, d1, D, rfl, hD, W1_337, F1_338, hDm, gg336⟩
    replace W1_337 := W1_337.out
    replace F1_338 := F1_338.out.low hH330.2.size
    refine hK.out _ _ ⟨⟨keepG gg336 hH330.1.1, keepG gg336 hH330.1.2.1, keepG gg336 hH330.1.2.2.1, keepG gg336 hH330.1.2.2.2⟩, hH330.2.trans gg336⟩ (fun hH335 => ?_)
    have hzwc334 := hH330.2.size
    clear hK K
    (try simp only [Act.put, List.setIfInBounds_toArray, List.set_cons_zero, List.set_cons_succ])
    have b8_339 := keepO gg336 b8_332
    clear b8_332
    refine wpAnyH_ready (rs := [3, 4]) (by kernel_rfl) (by simp) ?_
    refine AllReadyH.cons (o := ({ dst := some 22, op := Op.call { callee := Callee.value (Operand.func 17), args := #[Operand.tmp 21, Operand.const (Value.int IntKind.i64 20)], argTypes := #[36, 3] }, type := 24, pos := "outright.go:15", after := #[{ on := 2, ground := Ground.data }, { on := 1, ground := Ground.chain }], guard := none } : Oper)) rfl (fun K hK => ?_) ?_
    · go_simp
      with_reducible refine (X2.out _ hH335.2).mono ?_
      rintro r wc340 ⟨tb, b2, m2, d2, R2, rfl, W2_343, F2_344, hRm, gg342⟩
      replace W2_343 := W2_343.out
      replace F2_344 := F2_344.out.low hH335.2.size
      refine hK.out _ _ ⟨⟨keepG gg342 hH335.1.1, keepG gg342 hH335.1.2.1, keepG gg342 hH335.1.2.2.1, keepG gg342 hH335.1.2.2.2⟩, hH335.2.trans gg342⟩ (fun hH341 => ?_)
      have hzwc340 := hH335.2.size
      clear hK K
      (try simp only [Act.put, List.setIfInBounds_toArray, List.set_cons_zero, List.set_cons_succ])
      have b8_345 := keepO gg342 b8_339
      clear b8_339
      have W1_346 := W1_337.gr gg342
      clear W1_337
      have F1_347 := F1_338.gr gg342
      clear F1_338
      refine wpAnyH_ready (rs := [4]) (by kernel_rfl) (by simp) ?_
      refine AllReadyH.cons (o := ({ dst := some 7, op := Op.alloc 24, type := 0, pos := "outright.go:15", after := #[], guard := none } : Oper)) rfl (fun K hK => ?_) AllReadyH.nil
      have lt7b8 := lt_of_get2 b8_345
      go_simp
      refine hK.out _ _ ⟨⟨keepG ((Gr.refl wc340).alloc (.cells #[.bool false, .slice none 0 0] 24)) hH341.1.1, keepG ((Gr.refl wc340).alloc (.cells #[.bool false, .slice none 0 0] 24)) hH341.1.2.1, keepG ((Gr.refl wc340).alloc (.cells #[.bool false, .slice none 0 0] 24)) hH341.1.2.2.1, keepG ((Gr.refl wc340).alloc (.cells #[.bool false, .slice none 0 0] 24)) hH341.1.2.2.2⟩, hH341.2.trans ((Gr.refl wc340).alloc (.cells #[.bool false, .slice none 0 0] 24))⟩ (fun hH349 => ?_)
      clear hK K
      (try simp only [Act.put, List.setIfInBounds_toArray, List.set_cons_zero, List.set_cons_succ])
      have b7_351 := blk1 wc340 (.cells #[.bool false, .slice none 0 0] 24)
      have gg350 := (Gr.refl wc340).alloc (.cells #[.bool false, .slice none 0 0] 24)
      have l7352 := hH341.2.size
      have b8_353 := keepO gg350 b8_345
      clear b8_345
      have W1_354 := W1_346.gr gg350
      clear W1_346
      have F1_355 := F1_347.gr gg350
      clear F1_347
      have W2_356 := W2_343.gr gg350
      clear W2_343
      have F2_357 := F2_344.gr gg350
      clear F2_344
      generalize wc340.alloc (.cells #[.bool false, .slice none 0 0] 24) = wa348 at *
      refine wpAnyH_ready (rs := [6]) (by kernel_rfl) (by simp) ?_
      refine AllReadyH.cons (o := ({ dst := none, op := Op.store 24 (Operand.tmp 7) (Operand.tmp 20), type := 0, pos := "outright.go:15", after := #[{ on := 4, ground := Ground.data }, { on := 1, ground := Ground.data }, { on := 3, ground := Ground.chain }, { on := 0, ground := Ground.phase }, { on := 1, ground := Ground.phase }, { on := 2, ground := Ground.textOnly Departure.lateStores }, { on := 3, ground := Ground.textOnly Departure.lateStoresUnsure }, { on := 4, ground := Ground.phase }, { on := 5, ground := Ground.phase }], guard := none } : Oper)) rfl (fun K hK => ?_) AllReadyH.nil
      obtain ⟨t0', t1', u0', u1'⟩ := Out2.of b7_351
      go_simp
      refine hK.out _ _ ⟨⟨far2 (Nat.ne_of_gt (Nat.lt_of_lt_of_le hpA l7352)) hH349.1.1, far2 (Nat.ne_of_gt (Nat.lt_of_lt_of_le hpA l7352)) hH349.1.2.1, far2 (Nat.ne_of_gt (Nat.lt_of_lt_of_le hpB l7352)) hH349.1.2.2.1, far2 (Nat.ne_of_gt (Nat.lt_of_lt_of_le hpB l7352)) hH349.1.2.2.2⟩, ((hH349.2.setCell (p := ⟨_, 0, none⟩) l7352 _).setCell (p := ⟨_, 1, none⟩) l7352 _)⟩ (fun hS358 => ?_)
      clear hK K t0' t1' u0' u1'
      (try simp only [Act.put, List.setIfInBounds_toArray, List.set_cons_zero, List.set_cons_succ])
      have W1_359 := wh_set2 W1_354 F1_355 b7_351 (.bool false) (.slice b1 m1 d1) (by decide)
      have W2_360 := wh_set2 W2_356 F2_357 b7_351 (.bool false) (.slice b1 m1 d1) (by decide)
      have F1_361 := fresh_set2 F1_355 b7_351 (.bool false) (.slice b1 m1 d1) (by decide)
      have F2_362 := fresh_set2 F2_357 b7_351 (.bool false) (.slice b1 m1 d1) (by decide)
      have b8_363 := heap_far (q := wc340.heap.size) (i := 1) (v := (.slice b1 m1 d1)) (heap_far (q := wc340.heap.size) (i := 0) (v := (.bool false)) b8_353 (by omega)) (by omega)
      have n7_364 := put2_block b7_351 (.bool false) (.slice b1 m1 d1)
      clear W1_354 W2_356 F1_355 F2_357 b8_353 b7_351
      refine wpAnyH_ready (rs := [7]) (by kernel_rfl) (by simp) ?_
      refine AllReadyH.cons (o := ({ dst := none, op := Op.store 24 (Operand.tmp 8) (Operand.tmp 22), type := 0, pos := "outright.go:15", after := #[{ on := 5, ground := Ground.data }, { on := 3, ground := Ground.data }, { on := 6, ground := Ground.chain }, { on := 0, ground := Ground.phase }, { on := 1, ground := Ground.phase }, { on := 2, ground := Ground.phase }, { on := 3, ground := Ground.phase }, { on := 4, ground := Ground.phase }, { on := 5, ground := Ground.phase }, { on := 6, ground := Ground.phase }], guard := none } : Oper)) rfl (fun K hK => ?_) AllReadyH.nil
      obtain ⟨t0', t1', u0', u1'⟩ := Out2.of b8_363
      go_simp
      refine hK.out _ _ ⟨⟨far2 (Nat.ne_of_gt (Nat.lt_of_lt_of_le hpA l8333)) hS358.1.1, far2 (Nat.ne_of_gt (Nat.lt_of_lt_of_le hpA l8333)) hS358.1.2.1, far2 (Nat.ne_of_gt (Nat.lt_of_lt_of_le hpB l8333)) hS358.1.2.2.1, far2 (Nat.ne_of_gt (Nat.lt_of_lt_of_le hpB l8333)) hS358.1.2.2.2⟩, ((hS358.2.setCell (p := ⟨_, 0, none⟩) l8333 _).setCell (p := ⟨_, 1, none⟩) l8333 _)⟩ (fun hS365 => ?_)
      clear hK K t0' t1' u0' u1'
      (try simp only [Act.put, List.setIfInBounds_toArray, List.set_cons_zero, List.set_cons_succ])
      have W1_366 := wh_set2 W1_359 F1_361 b8_363 (.bool tb) (.slice b2 m2 d2) (by decide)
      have W2_367 := wh_set2 W2_360 F2_362 b8_363 (.bool tb) (.slice b2 m2 d2) (by decide)
      have F1_368 := fresh_set2 F1_361 b8_363 (.bool tb) (.slice b2 m2 d2) (by decide)
      have F2_369 := fresh_set2 F2_362 b8_363 (.bool tb) (.slice b2 m2 d2) (by decide)
      have n7_370 := heap_far (q := wd.heap.size) (i := 1) (v := (.slice b2 m2 d2)) (heap_far (q := wd.heap.size) (i := 0) (v := (.bool tb)) n7_364 (by omega)) (by omega)
      have n8_371 := put2_block b8_363 (.bool tb) (.slice b2 m2 d2)
      clear W1_359 W2_360 F1_361 F2_362 n7_364 b8_363
      refine wpAnyH_done (by kernel_rfl) ?_ _
      exact ⟨_, _, _, _, _, _, b1, m1, d1, D, tb, b2, m2, d2, R2, rfl, n7_370, n8_371, hD, W1_366, F1_368, hDm.out, W2_367, F2_369, hRm.out, hS365.2⟩
    refine AllReadyH.cons (o := ({ dst := some 7, op := Op.alloc 24, type := 0, pos := "outright.go:15", after := #[], guard := none } : Oper)) rfl (fun K hK => ?_) AllReadyH.nil
    have lt7b8 := lt_of_get2 b8_339
    go_simp
    refine hK.out _ _ ⟨⟨keepG ((Gr.refl wc334).alloc (.cells #[.bool false, .slice none 0 0] 24)) hH335.1.1, keepG ((Gr.refl wc334).alloc (.cells #[.bool false, .slice none 0 0] 24)) hH335.1.2.1, keepG ((Gr.refl wc334).alloc (.cells #[.bool false, .slice none 0 0] 24)) hH335.1.2.2.1, keepG ((Gr.refl wc334).alloc (.cells #[.bool false, .slice none 0 0] 24)) hH335.1.2.2.2⟩, hH335.2.trans ((Gr.refl wc334).alloc (.cells #[.bool false, .slice none 0 0] 24))⟩ (fun hH373 => ?_)
    clear hK K
    (try simp only [Act.put, List.setIfInBounds_toArray, List.set_cons_zero, List.set_cons_succ])
    have b7_375 := blk1 wc334 (.cells #[.bool false, .slice none 0 0] 24)
    have gg374 := (Gr.refl wc334).alloc (.cells #[.bool false, .slice none 0 0] 24)
    have l7376 := hH335.2.size
    have b8_377 := keepO gg374 b8_339
    clear b8_339
    have W1_378 := W1_337.gr gg374
    clear W1_337
    have F1_379 := F1_338.gr gg374
    clear F1_338
    generalize wc334.alloc (.cells #[.bool false, .slice none 0 0] 24) = wa372 at *
    refine wpAnyH_ready (rs := [3]) (by kernel_rfl) (by simp) ?_
    refine AllReadyH.cons (o := ({ dst := some 22, op := Op.call { callee := Callee.value (Operand.func 17), args := #[Operand.tmp 21, Operand.const (Value.int IntKind.i64 20)], argTypes := #[36, 3] }, type := 24, pos := "outright.go:15", after := #[{ on := 2, ground := Ground.data }, { on := 1, ground := Ground.chain }], guard := none } : Oper)) rfl (fun K hK => ?_) AllReadyH.nil
    go_simp
    with_reducible refine (X2.out _ hH373.2).mono ?_
    rintro r wc380 ⟨tb, b2, m2, d2, R2, rfl, W2_383, F2_384, hRm, gg382⟩
    replace W2_383 := W2_383.out
    replace F2_384 := F2_384.out.low hH373.2.size
    refine hK.out _ _ ⟨⟨keepG gg382 hH373.1.1, keepG gg382 hH373.1.2.1, keepG gg382 hH373.1.2.2.1, keepG gg382 hH373.1.2.2.2⟩, hH373.2.trans gg382⟩ (fun hH381 => ?_)
    have hzwc380 := hH373.2.size
    clear hK K
    (try simp only [Act.put, List.setIfInBounds_toArray, List.set_cons_zero, List.set_cons_succ])
    have b8_385 := keepO gg382 b8_377
    clear b8_377
    have W1_386 := W1_378.gr gg382
    clear W1_378
    have F1_387 := F1_379.gr gg382
    clear F1_379
    have b7_388 := keepO gg382 b7_375
    clear b7_375
    refine wpAnyH_ready (rs := [6]) (by kernel_rfl) (by simp) ?_
    refine AllReadyH.cons (o := ({ dst := none, op := Op.store 24 (Operand.tmp 7) (Operand.tmp 20), type := 0, pos := "outright.go:15", after := #[{ on := 4, ground := Ground.data }, { on := 1, ground := Ground.data }, { on := 3, ground := Ground.chain }, { on := 0, ground := Ground.phase }, { on := 1, ground := Ground.phase }, { on := 2, ground := Ground.textOnly Departure.lateStores }, { on := 3, ground := Ground.textOnly Departure.lateStoresUnsure }, { on := 4, ground := Ground.phase }, { on := 5, ground := Ground.phase }], guard := none } : Oper)) rfl (fun K hK => ?_) AllReadyH.nil
    obtain ⟨t0', t1', u0', u1'⟩ := Out2.of b7_388
    go_simp
    refine hK.out _ _ ⟨⟨far2 (Nat.ne_of_gt (Nat.lt_of_lt_of_le hpA l7376)) hH381.1.1, far2 (Nat.ne_of_gt (Nat.lt_of_lt_of_le hpA l7376)) hH381.1.2.1, far2 (Nat.ne_of_gt (Nat.lt_of_lt_of_le hpB l7376)) hH381.1.2.2.1, far2 (Nat.ne_of_gt (Nat.lt_of_lt_of_le hpB l7376)) hH381.1.2.2.2⟩, ((hH381.2.setCell (p := ⟨_, 0, none⟩) l7376 _).setCell (p := ⟨_, 1, none⟩) l7376 _)⟩ (fun hS389 => ?_)
    clear hK K t0' t1' u0' u1'
    (try simp only [Act.put, List.setIfInBounds_toArray, List.set_cons_zero, List.set_cons_succ])
    have W1_390 := wh_set2 W1_386 F1_387 b7_388 (.bool false) (.slice b1 m1 d1) (by decide)
    have W2_391 := wh_set2 W2_383 F2_384 b7_388 (.bool false) (.slice b1 m1 d1) (by decide)
    have F1_392 := fresh_set2 F1_387 b7_388 (.bool false) (.slice b1 m1 d1) (by decide)
    have F2_393 := fresh_set2 F2_384 b7_388 (.bool false) (.slice b1 m1 d1) (by decide)
    have b8_394 := heap_far (q := wc334.heap.size) (i := 1) (v := (.slice b1 m1 d1)) (heap_far (q := wc334.heap.size) (i := 0) (v := (.bool false)) b8_385 (by omega)) (by omega)
    have n7_395 := put2_block b7_388 (.bool false) (.slice b1 m1 d1)
    clear W1_386 W2_383 F1_387 F2_384 b8_385 b7_388
    refine wpAnyH_ready (rs := [7]) (by kernel_rfl) (by simp) ?_
    refine AllReadyH.cons (o := ({ dst := none, op := Op.store 24 (Operand.tmp 8) (Operand.tmp 22), type := 0, pos := "outright.go:15", after := #[{ on := 5, ground := Ground.data }, { on := 3, ground := Ground.data }, { on := 6, ground := Ground.chain }, { on := 0, ground := Ground.phase }, { on := 1, ground := Ground.phase }, { on := 2, ground := Ground.phase }, { on := 3, ground := Ground.phase }, { on := 4, ground := Ground.phase }, { on := 5, ground := Ground.phase }, { on := 6, ground := Ground.phase }], guard := none } : Oper)) rfl (fun K hK => ?_) AllReadyH.nil
    obtain ⟨t0', t1', u0', u1'⟩ := Out2.of b8_394
    go_simp
    refine hK.out _ _ ⟨⟨far2 (Nat.ne_of_gt (Nat.lt_of_lt_of_le hpA l8333)) hS389.1.1, far2 (Nat.ne_of_gt (Nat.lt_of_lt_of_le hpA l8333)) hS389.1.2.1, far2 (Nat.ne_of_gt (Nat.lt_of_lt_of_le hpB l8333)) hS389.1.2.2.1, far2 (Nat.ne_of_gt (Nat.lt_of_lt_of_le hpB l8333)) hS389.1.2.2.2⟩, ((hS389.2.setCell (p := ⟨_, 0, none⟩) l8333 _).setCell (p := ⟨_, 1, none⟩) l8333 _)⟩ (fun hS396 => ?_)
    clear hK K t0' t1' u0' u1'
    (try simp only [Act.put, List.setIfInBounds_toArray, List.set_cons_zero, List.set_cons_succ])
    have W1_397 := wh_set2 W1_390 F1_392 b8_394 (.bool tb) (.slice b2 m2 d2) (by decide)
    have W2_398 := wh_set2 W2_391 F2_393 b8_394 (.bool tb) (.slice b2 m2 d2) (by decide)
    have F1_399 := fresh_set2 F1_392 b8_394 (.bool tb) (.slice b2 m2 d2) (by decide)
    have F2_400 := fresh_set2 F2_393 b8_394 (.bool tb) (.slice b2 m2 d2) (by decide)
    have n7_401 := heap_far (q := wd.heap.size) (i := 1) (v := (.slice b2 m2 d2)) (heap_far (q := wd.heap.size) (i := 0) (v := (.bool tb)) n7_395 (by omega)) (by omega)
    have n8_402 := put2_block b8_394 (.bool tb) (.slice b2 m2 d2)
    clear W1_390 W2_391 F1_392 F2_393 n7_395 b8_394
    refine wpAnyH_done (by kernel_rfl) ?_ _
    exact ⟨_, _, _, _, _, _, b1, m1, d1, D, tb, b2, m2, d2, R2, rfl, n7_401, n8_402, hD, W1_397, F1_399, hDm.out, W2_398, F2_400, hRm.out, hS396.2⟩
  refine AllReadyH.cons (o := ({ dst := some 7, op := Op.alloc 24, type := 0, pos := "outright.go:15", after := #[], guard := none } : Oper)) rfl (fun K hK => ?_) AllReadyH.nil
  have lt7b8 := lt_of_get2 b8_332
  go_simp
  refine hK.out _ _ ⟨⟨keepG ((Gr.refl wa329).alloc (.cells #[.bool false, .slice none 0 0] 24)) hH330.1.1, keepG ((Gr.refl wa329).alloc (.cells #[.bool false, .slice none 0 0] 24)) hH330.1.2.1, keepG ((Gr.refl wa329).alloc (.cells #[.bool false, .slice none 0 0] 24)) hH330.1.2.2.1, keepG ((Gr.refl wa329).alloc (.cells #[.bool false, .slice none 0 0] 24)) hH330.1.2.2.2⟩, hH330.2.trans ((Gr.refl wa329).alloc (.cells #[.bool false, .slice none 0 0] 24))⟩ (fun hH404 => ?_)
  clear hK K
  (try simp only [Act.put, List.setIfInBounds_toArray, List.set_cons_zero, List.set_cons_succ])
  have b7_406 := blk1 wa329 (.cells #[.bool false, .slice none 0 0] 24)
  have gg405 := (Gr.refl wa329).alloc (.cells #[.bool false, .slice none 0 0] 24)
  have l7407 := hH330.2.size
  have b8_408 := keepO gg405 b8_332
  clear b8_332
  generalize wa329.alloc (.cells #[.bool false, .slice none 0 0] 24) = wa403 at *
  refine wpAnyH_ready (rs := [1]) (by kernel_rfl) (by simp) ?_
  refine AllReadyH.cons (o := ({ dst := some 20, op := Op.call { callee := Callee.value (Operand.func 16), args := #[Operand.tmp 19, Operand.const (Value.int IntKind.i64 20)], argTypes := #[36, 3] }, type := 24, pos := "outright.go:15", after := #[{ on := 0, ground := Ground.data }], guard := none } : Oper)) rfl (fun K hK => ?_) AllReadyH.nil
  go_simp
  with_reducible refine (X1.out _ hH404.2).mono ?_
  rintro r wc409 ⟨b1, m1, d1, D, rfl, hD, W1_412, F1_413, hDm, gg411⟩
  replace W1_412 := W1_412.out
  replace F1_413 := F1_413.out.low hH404.2.size
  refine hK.out _ _ ⟨⟨keepG gg411 hH404.1.1, keepG gg411 hH404.1.2.1, keepG gg411 hH404.1.2.2.1, keepG gg411 hH404.1.2.2.2⟩, hH404.2.trans gg411⟩ (fun hH410 => ?_)
  have hzwc409 := hH404.2.size
  clear hK K
  (try simp only [Act.put, List.setIfInBounds_toArray, List.set_cons_zero, List.set_cons_succ])
  have b8_414 := keepO gg411 b8_408
  clear b8_408
  have b7_415 := keepO gg411 b7_406
  clear b7_406
  refine wpAnyH_ready (rs := [3]) (by kernel_rfl) (by simp) ?_
  refine AllReadyH.cons (o := ({ dst := some 22, op := Op.call { callee := Callee.value (Operand.func 17), args := #[Operand.tmp 21, Operand.const (Value.int IntKind.i64 20)], argTypes := #[36, 3] }, type := 24, pos := "outright.go:15", after := #[{ on := 2, ground := Ground.data }, { on := 1, ground := Ground.chain }], guard := none } : Oper)) rfl (fun K hK => ?_) AllReadyH.nil
  go_simp
  with_reducible refine (X2.out _ hH410.2).mono ?_
  rintro r wc416 ⟨tb, b2, m2, d2, R2, rfl, W2_419, F2_420, hRm, gg418⟩
  replace W2_419 := W2_419.out
  replace F2_420 := F2_420.out.low hH410.2.size
  refine hK.out _ _ ⟨⟨keepG gg418 hH410.1.1, keepG gg418 hH410.1.2.1, keepG gg418 hH410.1.2.2.1, keepG gg418 hH410.1.2.2.2⟩, hH410.2.trans gg418⟩ (fun hH417 => ?_)
  have hzwc416 := hH410.2.size
  clear hK K
  (try simp only [Act.put, List.setIfInBounds_toArray, List.set_cons_zero, List.set_cons_succ])
  have b8_421 := keepO gg418 b8_414
  clear b8_414
  have b7_422 := keepO gg418 b7_415
  clear b7_415
  have W1_423 := W1_412.gr gg418
  clear W1_412
  have F1_424 := F1_413.gr gg418
  clear F1_413
  refine wpAnyH_ready (rs := [6]) (by kernel_rfl) (by simp) ?_
  refine AllReadyH.cons (o := ({ dst := none, op := Op.store 24 (Operand.tmp 7) (Operand.tmp 20), type := 0, pos := "outright.go:15", after := #[{ on := 4, ground := Ground.data }, { on := 1, ground := Ground.data }, { on := 3, ground := Ground.chain }, { on := 0, ground := Ground.phase }, { on := 1, ground := Ground.phase }, { on := 2, ground := Ground.textOnly Departure.lateStores }, { on := 3, ground := Ground.textOnly Departure.lateStoresUnsure }, { on := 4, ground := Ground.phase }, { on := 5, ground := Ground.phase }], guard := none } : Oper)) rfl (fun K hK => ?_) AllReadyH.nil
  obtain ⟨t0', t1', u0', u1'⟩ := Out2.of b7_422
  go_simp
  refine hK.out _ _ ⟨⟨far2 (Nat.ne_of_gt (Nat.lt_of_lt_of_le hpA l7407)) hH417.1.1, far2 (Nat.ne_of_gt (Nat.lt_of_lt_of_le hpA l7407)) hH417.1.2.1, far2 (Nat.ne_of_gt (Nat.lt_of_lt_of_le hpB l7407)) hH417.1.2.2.1, far2 (Nat.ne_of_gt (Nat.lt_of_lt_of_le hpB l7407)) hH417.1.2.2.2⟩, ((hH417.2.setCell (p := ⟨_, 0, none⟩) l7407 _).setCell (p := ⟨_, 1, none⟩) l7407 _)⟩ (fun hS425 => ?_)
  clear hK K t0' t1' u0' u1'
  (try simp only [Act.put, List.setIfInBounds_toArray, List.set_cons_zero, List.set_cons_succ])
  have W1_426 := wh_set2 W1_423 F1_424 b7_422 (.bool false) (.slice b1 m1 d1) (by decide)
  have W2_427 := wh_set2 W2_419 F2_420 b7_422 (.bool false) (.slice b1 m1 d1) (by decide)
  have F1_428 := fresh_set2 F1_424 b7_422 (.bool false) (.slice b1 m1 d1) (by decide)
  have F2_429 := fresh_set2 F2_420 b7_422 (.bool false) (.slice b1 m1 d1) (by decide)
  have b8_430 := heap_far (q := wa329.heap.size) (i := 1) (v := (.slice b1 m1 d1)) (heap_far (q := wa329.heap.size) (i := 0) (v := (.bool false)) b8_421 (by omega)) (by omega)
  have n7_431 := put2_block b7_422 (.bool false) (.slice b1 m1 d1)
  clear W1_423 W2_419 F1_424 F2_420 b8_421 b7_422
  refine wpAnyH_ready (rs := [7]) (by kernel_rfl) (by simp) ?_
  refine AllReadyH.cons (o := ({ dst := none, op := Op.store 24 (Operand.tmp 8) (Operand.tmp 22), type := 0, pos := "outright.go:15", after := #[{ on := 5, ground := Ground.data }, { on := 3, ground := Ground.data }, { on := 6, ground := Ground.chain }, { on := 0, ground := Ground.phase }, { on := 1, ground := Ground.phase }, { on := 2, ground := Ground.phase }, { on := 3, ground := Ground.phase }, { on := 4, ground := Ground.phase }, { on := 5, ground := Ground.phase }, { on := 6, ground := Ground.phase }], guard := none } : Oper)) rfl (fun K hK => ?_) AllReadyH.nil
  obtain ⟨t0', t1', u0', u1'⟩ := Out2.of b8_430
  go_simp
  refine hK.out _ _ ⟨⟨far2 (Nat.ne_of_gt (Nat.lt_of_lt_of_le hpA l8333)) hS425.1.1, far2 (Nat.ne_of_gt (Nat.lt_of_lt_of_le hpA l8333)) hS425.1.2.1, far2 (Nat.ne_of_gt (Nat.lt_of_lt_of_le hpB l8333)) hS425.1.2.2.1, far2 (Nat.ne_of_gt (Nat.lt_of_lt_of_le hpB l8333)) hS425.1.2.2.2⟩, ((hS425.2.setCell (p := ⟨_, 0, none⟩) l8333 _).setCell (p := ⟨_, 1, none⟩) l8333 _)⟩ (fun hS432 => ?_)
  clear hK K t0' t1' u0' u1'
  (try simp only [Act.put, List.setIfInBounds_toArray, List.set_cons_zero, List.set_cons_succ])
  have W1_433 := wh_set2 W1_426 F1_428 b8_430 (.bool tb) (.slice b2 m2 d2) (by decide)
  have W2_434 := wh_set2 W2_427 F2_429 b8_430 (.bool tb) (.slice b2 m2 d2) (by decide)
  have F1_435 := fresh_set2 F1_428 b8_430 (.bool tb) (.slice b2 m2 d2) (by decide)
  have F2_436 := fresh_set2 F2_429 b8_430 (.bool tb) (.slice b2 m2 d2) (by decide)
  have n7_437 := heap_far (q := wd.heap.size) (i := 1) (v := (.slice b2 m2 d2)) (heap_far (q := wd.heap.size) (i := 0) (v := (.bool tb)) n7_431 (by omega)) (by omega)
  have n8_438 := put2_block b8_430 (.bool tb) (.slice b2 m2 d2)
  clear W1_426 W2_427 F1_428 F2_429 n7_431 b8_430
  refine wpAnyH_done (by kernel_rfl) ?_ _
  exact ⟨_, _, _, _, _, _, b1, m1, d1, D, tb, b2, m2, d2, R2, rfl, n7_437, n8_438, hD, W1_433, F1_435, hDm.out, W2_434, F2_436, hRm.out, hS432.2⟩
end Go.Proofs.YtnhekagmdniokaaGreatDoor
