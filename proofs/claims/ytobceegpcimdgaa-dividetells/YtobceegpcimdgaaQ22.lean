import Derived.Test.YtobceegpcimdgaaQ21
namespace Go.Proofs.Ytobceegpcimdgaa
open Go.RowKit
set_option linter.unusedVariables false
set_option linter.unusedSimpArgs false

def RIf3 (t0 t1 t8 t9 t10 t11 t12 t13 t14 t15 t16 t17 t18 t19 t20 t21 t22 t23 t24 t25 t26 t27 t28 t29 t30 t31 t32 t33 t34 t35 t36 t37 t38 t39 t40 t41 t42 t43 : Value) (pa pb b4 b5 nQ cQ nR cR vQ vR : Nat) (aQ aR : Option Addr) (s t : Bool) (Z1 Z2 : Int) (w0 : World) (wq : World) : Exit → Act → World → Prop
  | .normal, a, w => ∃ u21 u22 u23 u24 u25 u26 e1 q1 m1 d1 e2 q2 m2 d2, a = { tmps := #[t0, t1, .pointer (some ⟨pa, 0, none⟩), .pointer (some ⟨pb, 0, none⟩), .pointer (some ⟨b4, 0, none⟩), .pointer (some ⟨b5, 0, none⟩), .slice aQ nQ cQ, .slice aR nR cR, t8, t9, t10, t11, t12, t13, t14, t15, t16, t17, t18, t19, t20, u21, u22, u23, u24, u25, u26, t27, t28, t29, t30, t31, t32, t33, t34, t35, t36, t37, t38, t39, t40, t41, t42, t43], defers := [] } ∧ w.heap[b4]? = some (.cells #[.bool e1, .slice q1 m1 d1] 24) ∧ w.heap[b5]? = some (.cells #[.bool e2, .slice q2 m2 d2] 24) ∧ Wh w e1 q1 m1 d1 Z1 ∧ Wh w e2 q2 m2 d2 Z2 ∧ Fresh w0.heap.size w q1 m1 d1 ∧ Fresh w0.heap.size w q2 m2 d2 ∧ Gr w0 w
  | _, _, _ => False
set_option maxRecDepth 100000 in
set_option maxHeartbeats 20000000 in
theorem regIf3 (t0 t1 t8 t9 t10 t11 t12 t13 t14 t15 t16 t17 t18 t19 t20 t21 t22 t23 t24 t25 t26 t27 t28 t29 t30 t31 t32 t33 t34 t35 t36 t37 t38 t39 t40 t41 t42 t43 : Value) (pa pb b4 b5 nQ cQ nR cR vQ vR : Nat) (aQ aR : Option Addr) (s t : Bool) (Z1 Z2 : Int) (w0 : World) (wq : World)
    (X1 : Hid (∀ w1, Gr w0 w1 → Lim w1 aQ nQ cQ 18446744073709551616 vQ → Calls Try.prog 40 #[.bool false, .slice aQ nQ cQ] w1 fun r w' => ∃ a b c d, r = .returned (.agg #[.bool a, .slice b c d]) ∧ Hid (Wh w' a b c d Z1) ∧ Hid (Fresh w0.heap.size w' b c d) ∧ Gr w1 w'))
    (X2 : Hid (∀ w1, Gr w0 w1 → Lim w1 aR nR cR 18446744073709551616 vR → Calls Try.prog 40 #[.bool s, .slice aR nR cR] w1 fun r w' => ∃ a b c d, r = .returned (.agg #[.bool a, .slice b c d]) ∧ Hid (Wh w' a b c d Z2) ∧ Hid (Fresh w0.heap.size w' b c d) ∧ Gr w1 w'))
    (hq : Lim wq aQ nQ cQ 18446744073709551616 vQ) (hr : Lim wq aR nR cR 18446744073709551616 vR) (h4 : wq.heap[b4]? = some (.cells #[.bool false, .slice none 0 0] 24)) (h5 : wq.heap[b5]? = some (.cells #[.bool false, .slice none 0 0] 24)) (l1 : w0.heap.size ≤ pa) (l2 : pa < pb) (l3 : pb < b4) (l4 : b4 < b5) (G0 : Gr w0 wq) (hcs : (wq.cell? ⟨pa, 0, none⟩ = some (.bool s))) :
    Code.wp Try.prog (Code.region 3 #[{ dst := some 21, op := Op.move (Operand.tmp 6), type := 22, pos := "ints.go:74", after := #[], guard := none }, { dst := some 22, op := Op.call { callee := Callee.value (Operand.func 40), args := #[Operand.const (Value.bool false), Operand.tmp 21], argTypes := #[4, 22] }, type := 24, pos := "ints.go:74", after := #[{ on := 0, ground := Ground.data }], guard := none }, { dst := some 23, op := Op.fieldAddr 24 (Operand.tmp 2) 0, type := 0, pos := "ints.go:74", after := #[], guard := none }, { dst := some 24, op := Op.load 4 (Operand.tmp 23), type := 4, pos := "ints.go:74", after := #[{ on := 2, ground := Ground.data }], guard := none }, { dst := some 25, op := Op.move (Operand.tmp 7), type := 22, pos := "ints.go:74", after := #[], guard := none }, { dst := some 26, op := Op.call { callee := Callee.value (Operand.func 40), args := #[Operand.tmp 24, Operand.tmp 25], argTypes := #[4, 22] }, type := 24, pos := "ints.go:74", after := #[{ on := 3, ground := Ground.data }, { on := 4, ground := Ground.data }, { on := 1, ground := Ground.chain }], guard := none }, { dst := none, op := Op.store 24 (Operand.tmp 4) (Operand.tmp 22), type := 0, pos := "ints.go:74", after := #[{ on := 1, ground := Ground.data }, { on := 5, ground := Ground.chain }, { on := 0, ground := Ground.phase }, { on := 1, ground := Ground.phase }, { on := 2, ground := Ground.textOnly Departure.lateStores }, { on := 3, ground := Ground.textOnly Departure.lateStores }, { on := 4, ground := Ground.textOnly Departure.lateStores }, { on := 5, ground := Ground.textOnly Departure.lateStoresUnsure }], guard := none }, { dst := none, op := Op.store 24 (Operand.tmp 5) (Operand.tmp 26), type := 0, pos := "ints.go:74", after := #[{ on := 5, ground := Ground.data }, { on := 6, ground := Ground.chain }, { on := 0, ground := Ground.phase }, { on := 1, ground := Ground.phase }, { on := 2, ground := Ground.phase }, { on := 3, ground := Ground.phase }, { on := 4, ground := Ground.phase }, { on := 5, ground := Ground.phase }, { on := 6, ground := Ground.phase }], guard := none }] true) (RIf3 t0 t1 t8 t9 t10 t11 t12 t13 t14 t15 t16 t17 t18 t19 t20 t21 t22 t23 t24 t25 t26 t27 t28 t29 t30 t31 t32 t33 t34 t35 t36 t37 t38 t39 t40 t41 t42 t43 pa pb b4 b5 nQ cQ nR cR vQ vR aQ aR s t Z1 Z2 w0 wq) { tmps := #[t0, t1, .pointer (some ⟨pa, 0, none⟩), .pointer (some ⟨pb, 0, none⟩), .pointer (some ⟨b4, 0, none⟩), .pointer (some ⟨b5, 0, none⟩), .slice aQ nQ cQ, .slice aR nR cR, t8, t9, t10, t11, t12, t13, t14, t15, t16, t17, t18, t19, t20, t21, t22, t23, t24, t25, t26, t27, t28, t29, t30, t31, t32, t33, t34, t35, t36, t37, t38, t39, t40, t41, t42, t43], defers := [] } wq := by
  have hS0 : (wq.drew.cell? ⟨pa, 0, none⟩ = some (.bool s)) ∧ Gr w0 wq.drew := ⟨hcs, G0.drew⟩
  have LQ_1 : Lim wq.drew aQ nQ cQ 18446744073709551616 vQ := hq.gr ((Gr.refl wq).drew)
  have LR_2 : Lim wq.drew aR nR cR 18446744073709551616 vR := hr.gr ((Gr.refl wq).drew)
  have B4_3 : wq.drew.heap[b4]? = some (.cells #[.bool false, .slice none 0 0] 24) := h4
  have B5_4 : wq.drew.heap[b5]? = some (.cells #[.bool false, .slice none 0 0] 24) := h5
  clear hcs G0 hq hr h4 h5
  refine wp_region_held_drew (S := fun w' => (w'.cell? ⟨pa, 0, none⟩ = some (.bool s)) ∧ Gr w0 w') (by kernel_rfl) hS0 (fun hHeld => ?_)
  clear hS0
  generalize wq.drew = wd at *
  refine wpAnyH_take (i := 0) (oi := ({ dst := some 21, op := Op.move (Operand.tmp 6), type := 22, pos := "ints.go:74", after := #[], guard := none } : Oper)) (v := ?_) rfl (by kernel_rfl) (by kernel_rfl) (by kernel_rfl) (fun _ _ _ h => h) (Or.inl ⟨by rfl, ?_⟩) (by with_reducible assumption) ?_
  rotate_left
  · intro w hSw
    (try dsimp only at hSw)
    first | (go_simp; done) | (go_simp; with_reducible rfl)
  (try simp only [Act.put, List.setIfInBounds_toArray, List.set_cons_zero, List.set_cons_succ])
  refine wpAnyH_take (i := 2) (oi := ({ dst := some 23, op := Op.fieldAddr 24 (Operand.tmp 2) 0, type := 0, pos := "ints.go:74", after := #[], guard := none } : Oper)) (v := ?_) rfl (by kernel_rfl) (by kernel_rfl) (by kernel_rfl) (fun _ _ _ h => h) (Or.inl ⟨by rfl, ?_⟩) (by with_reducible assumption) ?_
  rotate_left
  · intro w hSw
    (try dsimp only at hSw)
    first | (go_simp; done) | (go_simp; with_reducible rfl)
  (try simp only [Act.put, List.setIfInBounds_toArray, List.set_cons_zero, List.set_cons_succ])
  refine wpAnyH_take (i := 3) (oi := ({ dst := some 24, op := Op.load 4 (Operand.tmp 23), type := 4, pos := "ints.go:74", after := #[{ on := 2, ground := Ground.data }], guard := none } : Oper)) (v := ?_) rfl (by kernel_rfl) (by kernel_rfl) (by kernel_rfl) (fun _ _ _ h => h) (Or.inl ⟨by rfl, ?_⟩) (by with_reducible assumption) ?_
  rotate_left
  · intro w hSw
    (try dsimp only at hSw)
    first | (go_simp; done) | (go_simp; with_reducible rfl)
  (try simp only [Act.put, List.setIfInBounds_toArray, List.set_cons_zero, List.set_cons_succ])
  refine wpAnyH_take (i := 4) (oi := ({ dst := some 25, op := Op.move (Operand.tmp 7), type := 22, pos := "ints.go:74", after := #[], guard := none } : Oper)) (v := ?_) rfl (by kernel_rfl) (by kernel_rfl) (by kernel_rfl) (fun _ _ _ h => h) (Or.inl ⟨by rfl, ?_⟩) (by with_reducible assumption) ?_
  rotate_left
  · intro w hSw
    (try dsimp only at hSw)
    first | (go_simp; done) | (go_simp; with_reducible rfl)
  (try simp only [Act.put, List.setIfInBounds_toArray, List.set_cons_zero, List.set_cons_succ])
  refine wpAnyH_ready (rs := [1]) (by kernel_rfl) (by simp) ?_
  refine AllReadyH.cons (o := ({ dst := some 22, op := Op.call { callee := Callee.value (Operand.func 40), args := #[Operand.const (Value.bool false), Operand.tmp 21], argTypes := #[4, 22] }, type := 24, pos := "ints.go:74", after := #[{ on := 0, ground := Ground.data }], guard := none } : Oper)) rfl (fun K hK => ?_) AllReadyH.nil
  go_simp
  with_reducible refine (X1.out _ hHeld.2 LQ_1).mono ?_
  rintro r wc5 ⟨e1, q1, m1, d1, rfl, W1_8, F1_9, gg7⟩
  replace W1_8 := W1_8.out
  replace F1_9 := F1_9.out
  refine hK.out _ _ ⟨keepG gg7 hHeld.1, hHeld.2.trans gg7⟩ (fun hH6 => ?_)
  have hzwc5 := hHeld.2.size
  clear hK K
  (try simp only [Act.put, List.setIfInBounds_toArray, List.set_cons_zero, List.set_cons_succ])
  clear LQ_1
  have LR_10 := LR_2.gr gg7
  clear LR_2
  have B4_11 := keepO gg7 B4_3
  clear B4_3
  have B5_12 := keepO gg7 B5_4
  clear B5_4
  refine wpAnyH_ready (rs := [5]) (by kernel_rfl) (by simp) ?_
  refine AllReadyH.cons (o := ({ dst := some 26, op := Op.call { callee := Callee.value (Operand.func 40), args := #[Operand.tmp 24, Operand.tmp 25], argTypes := #[4, 22] }, type := 24, pos := "ints.go:74", after := #[{ on := 3, ground := Ground.data }, { on := 4, ground := Ground.data }, { on := 1, ground := Ground.chain }], guard := none } : Oper)) rfl (fun K hK => ?_) AllReadyH.nil
  go_simp
  with_reducible refine (X2.out _ hH6.2 LR_10).mono ?_
  rintro r wc13 ⟨e2, q2, m2, d2, rfl, W2_16, F2_17, gg15⟩
  replace W2_16 := W2_16.out
  replace F2_17 := F2_17.out
  refine hK.out _ _ ⟨keepG gg15 hH6.1, hH6.2.trans gg15⟩ (fun hH14 => ?_)
  have hzwc13 := hH6.2.size
  clear hK K
  (try simp only [Act.put, List.setIfInBounds_toArray, List.set_cons_zero, List.set_cons_succ])
  clear LR_10
  have B4_18 := keepO gg15 B4_11
  clear B4_11
  have B5_19 := keepO gg15 B5_12
  clear B5_12
  have W1_20 := W1_8.gr gg15
  clear W1_8
  have F1_21 := F1_9.gr gg15
  clear F1_9
  refine wpAnyH_ready (rs := [6]) (by kernel_rfl) (by simp) ?_
  refine AllReadyH.cons (o := ({ dst := none, op := Op.store 24 (Operand.tmp 4) (Operand.tmp 22), type := 0, pos := "ints.go:74", after := #[{ on := 1, ground := Ground.data }, { on := 5, ground := Ground.chain }, { on := 0, ground := Ground.phase }, { on := 1, ground := Ground.phase }, { on := 2, ground := Ground.textOnly Departure.lateStores }, { on := 3, ground := Ground.textOnly Departure.lateStores }, { on := 4, ground := Ground.textOnly Departure.lateStores }, { on := 5, ground := Ground.textOnly Departure.lateStoresUnsure }], guard := none } : Oper)) rfl (fun K hK => ?_) AllReadyH.nil
  obtain ⟨t0', t1', u0', u1'⟩ := outAny B4_18
  go_simp
  refine hK.out _ _ ⟨far2 (B := b4) (by omega) hH14.1, ((hH14.2.setCell (p := ⟨b4, 0, none⟩) (by show _ ≤ b4; omega) _).setCell (p := ⟨b4, 1, none⟩) (by show _ ≤ b4; omega) _)⟩ (fun hS22 => ?_)
  clear hK K t0' t1' u0' u1'
  (try simp only [Act.put, List.setIfInBounds_toArray, List.set_cons_zero, List.set_cons_succ])
  have B5_23 := heap_farW (q := b4) (i := 1) (v := .slice q1 m1 d1) (heap_farW (q := b4) (i := 0) (v := .bool e1) B5_19 (by omega)) (by omega)
  have W1_24 := wh_set2W W1_20 F1_21 B4_18 (.bool e1) (.slice q1 m1 d1) (by decide)
  have F1_25 := fresh_set2 F1_21 B4_18 (.bool e1) (.slice q1 m1 d1) (by decide)
  have W2_26 := wh_set2W W2_16 F2_17 B4_18 (.bool e1) (.slice q1 m1 d1) (by decide)
  have F2_27 := fresh_set2 F2_17 B4_18 (.bool e1) (.slice q1 m1 d1) (by decide)
  have B4_28 := put2_block B4_18 (.bool e1) (.slice q1 m1 d1)
  clear B5_19 W1_20 F1_21 W2_16 F2_17 B4_18
  refine wpAnyH_ready (rs := [7]) (by kernel_rfl) (by simp) ?_
  refine AllReadyH.cons (o := ({ dst := none, op := Op.store 24 (Operand.tmp 5) (Operand.tmp 26), type := 0, pos := "ints.go:74", after := #[{ on := 5, ground := Ground.data }, { on := 6, ground := Ground.chain }, { on := 0, ground := Ground.phase }, { on := 1, ground := Ground.phase }, { on := 2, ground := Ground.phase }, { on := 3, ground := Ground.phase }, { on := 4, ground := Ground.phase }, { on := 5, ground := Ground.phase }, { on := 6, ground := Ground.phase }], guard := none } : Oper)) rfl (fun K hK => ?_) AllReadyH.nil
  obtain ⟨t0', t1', u0', u1'⟩ := outAny B5_23
  go_simp
  refine hK.out _ _ ⟨far2 (B := b5) (by omega) hS22.1, ((hS22.2.setCell (p := ⟨b5, 0, none⟩) (by show _ ≤ b5; omega) _).setCell (p := ⟨b5, 1, none⟩) (by show _ ≤ b5; omega) _)⟩ (fun hS29 => ?_)
  clear hK K t0' t1' u0' u1'
  (try simp only [Act.put, List.setIfInBounds_toArray, List.set_cons_zero, List.set_cons_succ])
  have B4_30 := heap_farW (q := b5) (i := 1) (v := .slice q2 m2 d2) (heap_farW (q := b5) (i := 0) (v := .bool e2) B4_28 (by omega)) (by omega)
  have W1_31 := wh_set2W W1_24 F1_25 B5_23 (.bool e2) (.slice q2 m2 d2) (by decide)
  have F1_32 := fresh_set2 F1_25 B5_23 (.bool e2) (.slice q2 m2 d2) (by decide)
  have W2_33 := wh_set2W W2_26 F2_27 B5_23 (.bool e2) (.slice q2 m2 d2) (by decide)
  have F2_34 := fresh_set2 F2_27 B5_23 (.bool e2) (.slice q2 m2 d2) (by decide)
  have B5_35 := put2_block B5_23 (.bool e2) (.slice q2 m2 d2)
  clear B4_28 W1_24 F1_25 W2_26 F2_27 B5_23
  refine wpAnyH_done (by kernel_rfl) ?_ _
  exact ⟨_, _, _, _, _, _, e1, q1, m1, d1, e2, q2, m2, d2, rfl, B4_30, B5_35, W1_31, W2_33, F1_32, F2_34, hS29.2⟩
def RRt5 (t0 t1 t6 t7 t10 t11 t12 t13 t14 t15 t16 t17 t18 t19 t20 t21 t22 t23 t24 t25 t26 t27 t28 t29 t30 t31 t32 t33 t34 t35 t36 : Value) (pa pb b4 b5 nQ cQ nR cR vQ vR : Nat) (aQ aR : Option Addr) (s t : Bool) (Z1 Z2 : Int) (w0 : World) (wq : World) : Exit → Act → World → Prop
  | .normal, a, w => ∃ u26 u27 u28 u29 u30 u31 u32 u33 u34 u35 u36 e1 q1 m1 d1 e2 q2 m2 d2, a = { tmps := #[t0, t1, .pointer (some ⟨pa, 0, none⟩), .pointer (some ⟨pb, 0, none⟩), .pointer (some ⟨b4, 0, none⟩), .pointer (some ⟨b5, 0, none⟩), .int .i64 0, t7, .slice aQ nQ cQ, .slice aR nR cR, t10, t11, t12, t13, t14, t15, t16, t17, t18, t19, t20, t21, t22, t23, t24, t25, u26, u27, u28, u29, u30, u31, u32, u33, u34, u35, u36], defers := [] } ∧ w.heap[b4]? = some (.cells #[.bool e1, .slice q1 m1 d1] 24) ∧ w.heap[b5]? = some (.cells #[.bool e2, .slice q2 m2 d2] 24) ∧ Wh w e1 q1 m1 d1 Z1 ∧ Wh w e2 q2 m2 d2 Z2 ∧ Fresh w0.heap.size w q1 m1 d1 ∧ Fresh w0.heap.size w q2 m2 d2 ∧ Gr w0 w
  | _, _, _ => False
set_option maxRecDepth 100000 in
set_option maxHeartbeats 20000000 in
theorem regRt5 (t0 t1 t6 t7 t10 t11 t12 t13 t14 t15 t16 t17 t18 t19 t20 t21 t22 t23 t24 t25 t26 t27 t28 t29 t30 t31 t32 t33 t34 t35 t36 : Value) (pa pb b4 b5 nQ cQ nR cR vQ vR : Nat) (aQ aR : Option Addr) (s t : Bool) (Z1 Z2 : Int) (w0 : World) (wq : World)
    (X1 : Hid (∀ w1, Gr w0 w1 → Lim w1 aQ nQ cQ 18446744073709551616 vQ → Calls Try.prog 40 #[.bool (!(s == t)), .slice aQ nQ cQ] w1 fun r w' => ∃ a b c d, r = .returned (.agg #[.bool a, .slice b c d]) ∧ Hid (Wh w' a b c d Z1) ∧ Hid (Fresh w0.heap.size w' b c d) ∧ Gr w1 w'))
    (X2 : Hid (∀ w1, Gr w0 w1 → Lim w1 aR nR cR 18446744073709551616 vR → Calls Try.prog 40 #[.bool s, .slice aR nR cR] w1 fun r w' => ∃ a b c d, r = .returned (.agg #[.bool a, .slice b c d]) ∧ Hid (Wh w' a b c d Z2) ∧ Hid (Fresh w0.heap.size w' b c d) ∧ Gr w1 w'))
    (hq : Lim wq aQ nQ cQ 18446744073709551616 vQ) (hr : Lim wq aR nR cR 18446744073709551616 vR) (h4 : wq.heap[b4]? = some (.cells #[.bool false, .slice none 0 0] 24)) (h5 : wq.heap[b5]? = some (.cells #[.bool false, .slice none 0 0] 24)) (l1 : w0.heap.size ≤ pa) (l2 : pa < pb) (l3 : pb < b4) (l4 : b4 < b5) (G0 : Gr w0 wq) (hcs : (wq.cell? ⟨pa, 0, none⟩ = some (.bool s) ∧ wq.cell? ⟨pb, 0, none⟩ = some (.bool t))) :
    Code.wp Try.prog (Code.region 5 #[{ dst := some 26, op := Op.fieldAddr 24 (Operand.tmp 2) 0, type := 0, pos := "ref.go:42", after := #[], guard := none }, { dst := some 27, op := Op.load 4 (Operand.tmp 26), type := 4, pos := "ref.go:42", after := #[{ on := 0, ground := Ground.data }], guard := none }, { dst := some 28, op := Op.fieldAddr 24 (Operand.tmp 3) 0, type := 0, pos := "ref.go:42", after := #[], guard := none }, { dst := some 29, op := Op.load 4 (Operand.tmp 28), type := 4, pos := "ref.go:42", after := #[{ on := 2, ground := Ground.data }], guard := none }, { dst := some 30, op := Op.binOp BinOp.neq 4 (Operand.tmp 27) (Operand.tmp 29) 4, type := 4, pos := "ref.go:42", after := #[{ on := 1, ground := Ground.data }, { on := 3, ground := Ground.data }], guard := none }, { dst := some 31, op := Op.move (Operand.tmp 8), type := 22, pos := "ref.go:42", after := #[], guard := none }, { dst := some 32, op := Op.call { callee := Callee.value (Operand.func 40), args := #[Operand.tmp 30, Operand.tmp 31], argTypes := #[4, 22] }, type := 24, pos := "ref.go:42", after := #[{ on := 4, ground := Ground.data }, { on := 5, ground := Ground.data }], guard := none }, { dst := some 33, op := Op.fieldAddr 24 (Operand.tmp 2) 0, type := 0, pos := "ref.go:42", after := #[], guard := none }, { dst := some 34, op := Op.load 4 (Operand.tmp 33), type := 4, pos := "ref.go:42", after := #[{ on := 7, ground := Ground.data }], guard := none }, { dst := some 35, op := Op.move (Operand.tmp 9), type := 22, pos := "ref.go:42", after := #[], guard := none }, { dst := some 36, op := Op.call { callee := Callee.value (Operand.func 40), args := #[Operand.tmp 34, Operand.tmp 35], argTypes := #[4, 22] }, type := 24, pos := "ref.go:42", after := #[{ on := 8, ground := Ground.data }, { on := 9, ground := Ground.data }, { on := 6, ground := Ground.chain }], guard := none }, { dst := none, op := Op.store 24 (Operand.tmp 4) (Operand.tmp 32), type := 0, pos := "ref.go:42", after := #[{ on := 6, ground := Ground.data }, { on := 10, ground := Ground.chain }, { on := 0, ground := Ground.phase }, { on := 1, ground := Ground.phase }, { on := 2, ground := Ground.phase }, { on := 3, ground := Ground.phase }, { on := 4, ground := Ground.phase }, { on := 5, ground := Ground.phase }, { on := 6, ground := Ground.phase }, { on := 7, ground := Ground.textOnly Departure.lateStores }, { on := 8, ground := Ground.textOnly Departure.lateStores }, { on := 9, ground := Ground.textOnly Departure.lateStores }, { on := 10, ground := Ground.textOnly Departure.lateStoresUnsure }], guard := none }, { dst := none, op := Op.store 24 (Operand.tmp 5) (Operand.tmp 36), type := 0, pos := "ref.go:42", after := #[{ on := 10, ground := Ground.data }, { on := 11, ground := Ground.chain }, { on := 0, ground := Ground.phase }, { on := 1, ground := Ground.phase }, { on := 2, ground := Ground.phase }, { on := 3, ground := Ground.phase }, { on := 4, ground := Ground.phase }, { on := 5, ground := Ground.phase }, { on := 6, ground := Ground.phase }, { on := 7, ground := Ground.phase }, { on := 8, ground := Ground.phase }, { on := 9, ground := Ground.phase }, { on := 10, ground := Ground.phase }, { on := 11, ground := Ground.phase }], guard := none }, { dst := some 6, op := Op.assign (Operand.const (Value.int IntKind.i64 0)), type := 28, pos := "ref.go:42", after := #[{ on := 12, ground := Ground.chain }, { on := 0, ground := Ground.phase }, { on := 1, ground := Ground.phase }, { on := 2, ground := Ground.phase }, { on := 3, ground := Ground.phase }, { on := 4, ground := Ground.phase }, { on := 5, ground := Ground.phase }, { on := 6, ground := Ground.phase }, { on := 7, ground := Ground.phase }, { on := 8, ground := Ground.phase }, { on := 9, ground := Ground.phase }, { on := 10, ground := Ground.phase }, { on := 11, ground := Ground.phase }, { on := 12, ground := Ground.phase }], guard := none }] true) (RRt5 t0 t1 t6 t7 t10 t11 t12 t13 t14 t15 t16 t17 t18 t19 t20 t21 t22 t23 t24 t25 t26 t27 t28 t29 t30 t31 t32 t33 t34 t35 t36 pa pb b4 b5 nQ cQ nR cR vQ vR aQ aR s t Z1 Z2 w0 wq) { tmps := #[t0, t1, .pointer (some ⟨pa, 0, none⟩), .pointer (some ⟨pb, 0, none⟩), .pointer (some ⟨b4, 0, none⟩), .pointer (some ⟨b5, 0, none⟩), t6, t7, .slice aQ nQ cQ, .slice aR nR cR, t10, t11, t12, t13, t14, t15, t16, t17, t18, t19, t20, t21, t22, t23, t24, t25, t26, t27, t28, t29, t30, t31, t32, t33, t34, t35, t36], defers := [] } wq := by
  have hS0 : (wq.drew.cell? ⟨pa, 0, none⟩ = some (.bool s) ∧ wq.drew.cell? ⟨pb, 0, none⟩ = some (.bool t)) ∧ Gr w0 wq.drew := ⟨hcs, G0.drew⟩
  have LQ_1 : Lim wq.drew aQ nQ cQ 18446744073709551616 vQ := hq.gr ((Gr.refl wq).drew)
  have LR_2 : Lim wq.drew aR nR cR 18446744073709551616 vR := hr.gr ((Gr.refl wq).drew)
  have B4_3 : wq.drew.heap[b4]? = some (.cells #[.bool false, .slice none 0 0] 24) := h4
  have B5_4 : wq.drew.heap[b5]? = some (.cells #[.bool false, .slice none 0 0] 24) := h5
  clear hcs G0 hq hr h4 h5
  refine wp_region_held_drew (S := fun w' => (w'.cell? ⟨pa, 0, none⟩ = some (.bool s) ∧ w'.cell? ⟨pb, 0, none⟩ = some (.bool t)) ∧ Gr w0 w') (by kernel_rfl) hS0 (fun hHeld => ?_)
  clear hS0
  generalize wq.drew = wd at *
  refine wpAnyH_take (i := 0) (oi := ({ dst := some 26, op := Op.fieldAddr 24 (Operand.tmp 2) 0, type := 0, pos := "ref.go:42", after := #[], guard := none } : Oper)) (v := ?_) rfl (by kernel_rfl) (by kernel_rfl) (by kernel_rfl) (fun _ _ _ h => h) (Or.inl ⟨by rfl, ?_⟩) (by with_reducible assumption) ?_
  rotate_left
  · intro w hSw
    (try dsimp only at hSw)
    first | (go_simp; done) | (go_simp; with_reducible rfl)
  (try simp only [Act.put, List.setIfInBounds_toArray, List.set_cons_zero, List.set_cons_succ])
  refine wpAnyH_take (i := 1) (oi := ({ dst := some 27, op := Op.load 4 (Operand.tmp 26), type := 4, pos := "ref.go:42", after := #[{ on := 0, ground := Ground.data }], guard := none } : Oper)) (v := ?_) rfl (by kernel_rfl) (by kernel_rfl) (by kernel_rfl) (fun _ _ _ h => h) (Or.inl ⟨by rfl, ?_⟩) (by with_reducible assumption) ?_
  rotate_left
  · intro w hSw
    (try dsimp only at hSw)
    first | (go_simp; done) | (go_simp; with_reducible rfl)
  (try simp only [Act.put, List.setIfInBounds_toArray, List.set_cons_zero, List.set_cons_succ])
  refine wpAnyH_take (i := 2) (oi := ({ dst := some 28, op := Op.fieldAddr 24 (Operand.tmp 3) 0, type := 0, pos := "ref.go:42", after := #[], guard := none } : Oper)) (v := ?_) rfl (by kernel_rfl) (by kernel_rfl) (by kernel_rfl) (fun _ _ _ h => h) (Or.inl ⟨by rfl, ?_⟩) (by with_reducible assumption) ?_
  rotate_left
  · intro w hSw
    (try dsimp only at hSw)
    first | (go_simp; done) | (go_simp; with_reducible rfl)
  (try simp only [Act.put, List.setIfInBounds_toArray, List.set_cons_zero, List.set_cons_succ])
  refine wpAnyH_take (i := 3) (oi := ({ dst := some 29, op := Op.load 4 (Operand.tmp 28), type := 4, pos := "ref.go:42", after := #[{ on := 2, ground := Ground.data }], guard := none } : Oper)) (v := ?_) rfl (by kernel_rfl) (by kernel_rfl) (by kernel_rfl) (fun _ _ _ h => h) (Or.inl ⟨by rfl, ?_⟩) (by with_reducible assumption) ?_
  rotate_left
  · intro w hSw
    (try dsimp only at hSw)
    first | (go_simp; done) | (go_simp; with_reducible rfl)
  (try simp only [Act.put, List.setIfInBounds_toArray, List.set_cons_zero, List.set_cons_succ])
  refine wpAnyH_take (i := 4) (oi := ({ dst := some 30, op := Op.binOp BinOp.neq 4 (Operand.tmp 27) (Operand.tmp 29) 4, type := 4, pos := "ref.go:42", after := #[{ on := 1, ground := Ground.data }, { on := 3, ground := Ground.data }], guard := none } : Oper)) (v := ?_) rfl (by kernel_rfl) (by kernel_rfl) (by kernel_rfl) (fun _ _ _ h => h) (Or.inl ⟨by rfl, ?_⟩) (by with_reducible assumption) ?_
  rotate_left
  · intro w hSw
    (try dsimp only at hSw)
    first | (go_simp; done) | (go_simp; with_reducible rfl)
  (try simp only [Act.put, List.setIfInBounds_toArray, List.set_cons_zero, List.set_cons_succ])
  refine wpAnyH_take (i := 5) (oi := ({ dst := some 31, op := Op.move (Operand.tmp 8), type := 22, pos := "ref.go:42", after := #[], guard := none } : Oper)) (v := ?_) rfl (by kernel_rfl) (by kernel_rfl) (by kernel_rfl) (fun _ _ _ h => h) (Or.inl ⟨by rfl, ?_⟩) (by with_reducible assumption) ?_
  rotate_left
  · intro w hSw
    (try dsimp only at hSw)
    first | (go_simp; done) | (go_simp; with_reducible rfl)
  (try simp only [Act.put, List.setIfInBounds_toArray, List.set_cons_zero, List.set_cons_succ])
  refine wpAnyH_take (i := 7) (oi := ({ dst := some 33, op := Op.fieldAddr 24 (Operand.tmp 2) 0, type := 0, pos := "ref.go:42", after := #[], guard := none } : Oper)) (v := ?_) rfl (by kernel_rfl) (by kernel_rfl) (by kernel_rfl) (fun _ _ _ h => h) (Or.inl ⟨by rfl, ?_⟩) (by with_reducible assumption) ?_
  rotate_left
  · intro w hSw
    (try dsimp only at hSw)
    first | (go_simp; done) | (go_simp; with_reducible rfl)
  (try simp only [Act.put, List.setIfInBounds_toArray, List.set_cons_zero, List.set_cons_succ])
  refine wpAnyH_take (i := 8) (oi := ({ dst := some 34, op := Op.load 4 (Operand.tmp 33), type := 4, pos := "ref.go:42", after := #[{ on := 7, ground := Ground.data }], guard := none } : Oper)) (v := ?_) rfl (by kernel_rfl) (by kernel_rfl) (by kernel_rfl) (fun _ _ _ h => h) (Or.inl ⟨by rfl, ?_⟩) (by with_reducible assumption) ?_
  rotate_left
  · intro w hSw
    (try dsimp only at hSw)
    first | (go_simp; done) | (go_simp; with_reducible rfl)
  (try simp only [Act.put, List.setIfInBounds_toArray, List.set_cons_zero, List.set_cons_succ])
  refine wpAnyH_take (i := 9) (oi := ({ dst := some 35, op := Op.move (Operand.tmp 9), type := 22, pos := "ref.go:42", after := #[], guard := none } : Oper)) (v := ?_) rfl (by kernel_rfl) (by kernel_rfl) (by kernel_rfl) (fun _ _ _ h => h) (Or.inl ⟨by rfl, ?_⟩) (by with_reducible assumption) ?_
  rotate_left
  · intro w hSw
    (try dsimp only at hSw)
    first | (go_simp; done) | (go_simp; with_reducible rfl)
  (try simp only [Act.put, List.setIfInBounds_toArray, List.set_cons_zero, List.set_cons_succ])
  refine wpAnyH_ready (rs := [6]) (by kernel_rfl) (by simp) ?_
  refine AllReadyH.cons (o := ({ dst := some 32, op := Op.call { callee := Callee.value (Operand.func 40), args := #[Operand.tmp 30, Operand.tmp 31], argTypes := #[4, 22] }, type := 24, pos := "ref.go:42", after := #[{ on := 4, ground := Ground.data }, { on := 5, ground := Ground.data }], guard := none } : Oper)) rfl (fun K hK => ?_) AllReadyH.nil
  go_simp
  with_reducible refine (X1.out _ hHeld.2 LQ_1).mono ?_
  rintro r wc5 ⟨e1, q1, m1, d1, rfl, W1_8, F1_9, gg7⟩
  replace W1_8 := W1_8.out
  replace F1_9 := F1_9.out
  refine hK.out _ _ ⟨⟨keepG gg7 hHeld.1.1, keepG gg7 hHeld.1.2⟩, hHeld.2.trans gg7⟩ (fun hH6 => ?_)
  have hzwc5 := hHeld.2.size
  clear hK K
  (try simp only [Act.put, List.setIfInBounds_toArray, List.set_cons_zero, List.set_cons_succ])
  clear LQ_1
  have LR_10 := LR_2.gr gg7
  clear LR_2
  have B4_11 := keepO gg7 B4_3
  clear B4_3
  have B5_12 := keepO gg7 B5_4
  clear B5_4
  refine wpAnyH_ready (rs := [10]) (by kernel_rfl) (by simp) ?_
  refine AllReadyH.cons (o := ({ dst := some 36, op := Op.call { callee := Callee.value (Operand.func 40), args := #[Operand.tmp 34, Operand.tmp 35], argTypes := #[4, 22] }, type := 24, pos := "ref.go:42", after := #[{ on := 8, ground := Ground.data }, { on := 9, ground := Ground.data }, { on := 6, ground := Ground.chain }], guard := none } : Oper)) rfl (fun K hK => ?_) AllReadyH.nil
  go_simp
  with_reducible refine (X2.out _ hH6.2 LR_10).mono ?_
  rintro r wc13 ⟨e2, q2, m2, d2, rfl, W2_16, F2_17, gg15⟩
  replace W2_16 := W2_16.out
  replace F2_17 := F2_17.out
  refine hK.out _ _ ⟨⟨keepG gg15 hH6.1.1, keepG gg15 hH6.1.2⟩, hH6.2.trans gg15⟩ (fun hH14 => ?_)
  have hzwc13 := hH6.2.size
  clear hK K
  (try simp only [Act.put, List.setIfInBounds_toArray, List.set_cons_zero, List.set_cons_succ])
  clear LR_10
  have B4_18 := keepO gg15 B4_11
  clear B4_11
  have B5_19 := keepO gg15 B5_12
  clear B5_12
  have W1_20 := W1_8.gr gg15
  clear W1_8
  have F1_21 := F1_9.gr gg15
  clear F1_9
  refine wpAnyH_ready (rs := [11]) (by kernel_rfl) (by simp) ?_
  refine AllReadyH.cons (o := ({ dst := none, op := Op.store 24 (Operand.tmp 4) (Operand.tmp 32), type := 0, pos := "ref.go:42", after := #[{ on := 6, ground := Ground.data }, { on := 10, ground := Ground.chain }, { on := 0, ground := Ground.phase }, { on := 1, ground := Ground.phase }, { on := 2, ground := Ground.phase }, { on := 3, ground := Ground.phase }, { on := 4, ground := Ground.phase }, { on := 5, ground := Ground.phase }, { on := 6, ground := Ground.phase }, { on := 7, ground := Ground.textOnly Departure.lateStores }, { on := 8, ground := Ground.textOnly Departure.lateStores }, { on := 9, ground := Ground.textOnly Departure.lateStores }, { on := 10, ground := Ground.textOnly Departure.lateStoresUnsure }], guard := none } : Oper)) rfl (fun K hK => ?_) AllReadyH.nil
  obtain ⟨t0', t1', u0', u1'⟩ := outAny B4_18
  go_simp
  refine hK.out _ _ ⟨⟨far2 (B := b4) (by omega) hH14.1.1, far2 (B := b4) (by omega) hH14.1.2⟩, ((hH14.2.setCell (p := ⟨b4, 0, none⟩) (by show _ ≤ b4; omega) _).setCell (p := ⟨b4, 1, none⟩) (by show _ ≤ b4; omega) _)⟩ (fun hS22 => ?_)
  clear hK K t0' t1' u0' u1'
  (try simp only [Act.put, List.setIfInBounds_toArray, List.set_cons_zero, List.set_cons_succ])
  have B5_23 := heap_farW (q := b4) (i := 1) (v := .slice q1 m1 d1) (heap_farW (q := b4) (i := 0) (v := .bool e1) B5_19 (by omega)) (by omega)
  have W1_24 := wh_set2W W1_20 F1_21 B4_18 (.bool e1) (.slice q1 m1 d1) (by decide)
  have F1_25 := fresh_set2 F1_21 B4_18 (.bool e1) (.slice q1 m1 d1) (by decide)
  have W2_26 := wh_set2W W2_16 F2_17 B4_18 (.bool e1) (.slice q1 m1 d1) (by decide)
  have F2_27 := fresh_set2 F2_17 B4_18 (.bool e1) (.slice q1 m1 d1) (by decide)
  have B4_28 := put2_block B4_18 (.bool e1) (.slice q1 m1 d1)
  clear B5_19 W1_20 F1_21 W2_16 F2_17 B4_18
  refine wpAnyH_ready (rs := [12]) (by kernel_rfl) (by simp) ?_
  refine AllReadyH.cons (o := ({ dst := none, op := Op.store 24 (Operand.tmp 5) (Operand.tmp 36), type := 0, pos := "ref.go:42", after := #[{ on := 10, ground := Ground.data }, { on := 11, ground := Ground.chain }, { on := 0, ground := Ground.phase }, { on := 1, ground := Ground.phase }, { on := 2, ground := Ground.phase }, { on := 3, ground := Ground.phase }, { on := 4, ground := Ground.phase }, { on := 5, ground := Ground.phase }, { on := 6, ground := Ground.phase }, { on := 7, ground := Ground.phase }, { on := 8, ground := Ground.phase }, { on := 9, ground := Ground.phase }, { on := 10, ground := Ground.phase }, { on := 11, ground := Ground.phase }], guard := none } : Oper)) rfl (fun K hK => ?_) AllReadyH.nil
  obtain ⟨t0', t1', u0', u1'⟩ := outAny B5_23
  go_simp
  refine hK.out _ _ ⟨⟨far2 (B := b5) (by omega) hS22.1.1, far2 (B := b5) (by omega) hS22.1.2⟩, ((hS22.2.setCell (p := ⟨b5, 0, none⟩) (by show _ ≤ b5; omega) _).setCell (p := ⟨b5, 1, none⟩) (by show _ ≤ b5; omega) _)⟩ (fun hS29 => ?_)
  clear hK K t0' t1' u0' u1'
  (try simp only [Act.put, List.setIfInBounds_toArray, List.set_cons_zero, List.set_cons_succ])
  have B4_30 := heap_farW (q := b5) (i := 1) (v := .slice q2 m2 d2) (heap_farW (q := b5) (i := 0) (v := .bool e2) B4_28 (by omega)) (by omega)
  have W1_31 := wh_set2W W1_24 F1_25 B5_23 (.bool e2) (.slice q2 m2 d2) (by decide)
  have F1_32 := fresh_set2 F1_25 B5_23 (.bool e2) (.slice q2 m2 d2) (by decide)
  have W2_33 := wh_set2W W2_26 F2_27 B5_23 (.bool e2) (.slice q2 m2 d2) (by decide)
  have F2_34 := fresh_set2 F2_27 B5_23 (.bool e2) (.slice q2 m2 d2) (by decide)
  have B5_35 := put2_block B5_23 (.bool e2) (.slice q2 m2 d2)
  clear B4_28 W1_24 F1_25 W2_26 F2_27 B5_23
  refine wpAnyH_take (i := 13) (oi := ({ dst := some 6, op := Op.assign (Operand.const (Value.int IntKind.i64 0)), type := 28, pos := "ref.go:42", after := #[{ on := 12, ground := Ground.chain }, { on := 0, ground := Ground.phase }, { on := 1, ground := Ground.phase }, { on := 2, ground := Ground.phase }, { on := 3, ground := Ground.phase }, { on := 4, ground := Ground.phase }, { on := 5, ground := Ground.phase }, { on := 6, ground := Ground.phase }, { on := 7, ground := Ground.phase }, { on := 8, ground := Ground.phase }, { on := 9, ground := Ground.phase }, { on := 10, ground := Ground.phase }, { on := 11, ground := Ground.phase }, { on := 12, ground := Ground.phase }], guard := none } : Oper)) (v := ?_) rfl (by kernel_rfl) (by kernel_rfl) (by kernel_rfl) (fun _ _ _ h => h) (Or.inl ⟨by rfl, ?_⟩) (by with_reducible assumption) ?_
  rotate_left
  · intro w hSw
    (try dsimp only at hSw)
    first | (go_simp; done) | (go_simp; with_reducible rfl)
  (try simp only [Act.put, List.setIfInBounds_toArray, List.set_cons_zero, List.set_cons_succ])
  refine wpAnyH_done (by kernel_rfl) ?_ _
  exact ⟨_, _, _, _, _, _, _, _, _, _, _, e1, q1, m1, d1, e2, q2, m2, d2, rfl, B4_30, B5_35, W1_31, W2_33, F1_32, F2_34, hS29.2⟩
def RIf6 (t0 t1 t8 t9 t10 t11 t12 t13 t14 t15 t16 t17 t18 t19 t20 t21 t22 t23 t24 t25 t26 t27 t28 t29 t30 t31 t32 t33 t34 t35 t36 t37 t38 t39 t40 t41 t42 t43 : Value) (pa pb b4 b5 nQ cQ nR cR nY cY vQ vR vY vS vT : Nat) (aQ aR aY : Option Addr) (t : Bool) (Z1 Z2 : Int) (w0 : World) (wq : World) : Exit → Act → World → Prop
  | .normal, a, w => ∃ u33 u34 u35 u36 u37 u38 u39 u40 u41 u42 u43 e1 q1 m1 d1 e2 q2 m2 d2, a = { tmps := #[t0, t1, .pointer (some ⟨pa, 0, none⟩), .pointer (some ⟨pb, 0, none⟩), .pointer (some ⟨b4, 0, none⟩), .pointer (some ⟨b5, 0, none⟩), .slice aQ nQ cQ, .slice aR nR cR, t8, t9, t10, t11, t12, t13, t14, t15, t16, t17, t18, t19, t20, t21, t22, t23, t24, t25, t26, t27, t28, t29, t30, t31, t32, u33, u34, u35, u36, u37, u38, u39, u40, u41, u42, u43], defers := [] } ∧ w.heap[b4]? = some (.cells #[.bool e1, .slice q1 m1 d1] 24) ∧ w.heap[b5]? = some (.cells #[.bool e2, .slice q2 m2 d2] 24) ∧ Wh w e1 q1 m1 d1 Z1 ∧ Wh w e2 q2 m2 d2 Z2 ∧ Fresh w0.heap.size w q1 m1 d1 ∧ Fresh w0.heap.size w q2 m2 d2 ∧ Gr w0 w
  | _, _, _ => False
set_option maxRecDepth 100000 in
set_option maxHeartbeats 20000000 in
theorem regIf6 (t0 t1 t8 t9 t10 t11 t12 t13 t14 t15 t16 t17 t18 t19 t20 t21 t22 t23 t24 t25 t26 t27 t28 t29 t30 t31 t32 t33 t34 t35 t36 t37 t38 t39 t40 t41 t42 t43 : Value) (pa pb b4 b5 nQ cQ nR cR nY cY vQ vR vY vS vT : Nat) (aQ aR aY : Option Addr) (t : Bool) (Z1 Z2 : Int) (w0 : World) (wq : World)
    (X1 : Hid (∀ w1 a n c, Gr w0 w1 → Lim w1 a n c 18446744073709551616 vS → Calls Try.prog 40 #[.bool true, .slice a n c] w1 fun r w' => ∃ a b c d, r = .returned (.agg #[.bool a, .slice b c d]) ∧ Hid (Wh w' a b c d Z1) ∧ Hid (Fresh w0.heap.size w' b c d) ∧ Gr w1 w'))
    (X2 : Hid (∀ w1 a n c, Gr w0 w1 → Lim w1 a n c 18446744073709551616 vT → Calls Try.prog 40 #[.bool t, .slice a n c] w1 fun r w' => ∃ a b c d, r = .returned (.agg #[.bool a, .slice b c d]) ∧ Hid (Wh w' a b c d Z2) ∧ Hid (Fresh w0.heap.size w' b c d) ∧ Gr w1 w'))
    (X3 : Hid (∀ w1, Gr w0 w1 → Calls Try.prog 61 #[.int .u64 1] w1 fun e w' => ∃ ad' n' cap', e = .returned (.slice ad' n' cap') ∧ Lim w' ad' n' cap' 18446744073709551616 1 ∧ Gr w1 w'))
    (X4 : Hid (∀ w1 a n c, Gr w0 w1 → Lim w1 aQ nQ cQ 18446744073709551616 vQ → Lim w1 a n c 18446744073709551616 1 → Calls Try.prog 60 #[.slice aQ nQ cQ, .slice a n c] w1 fun e w' => ∃ ad' n' cap', e = .returned (.slice ad' n' cap') ∧ Lim w' ad' n' cap' 18446744073709551616 vS ∧ Gr w1 w'))
    (X5 : Hid (∀ w1, Gr w0 w1 → Lim w1 aY nY cY 18446744073709551616 vY → Lim w1 aR nR cR 18446744073709551616 vR → Calls Try.prog 62 #[.slice aY nY cY, .slice aR nR cR] w1 fun e w' => ∃ ad' n' cap', e = .returned (.slice ad' n' cap') ∧ Lim w' ad' n' cap' 18446744073709551616 vT ∧ Gr w1 w'))
    (hq : Lim wq aQ nQ cQ 18446744073709551616 vQ) (hr : Lim wq aR nR cR 18446744073709551616 vR) (hy : Lim wq aY nY cY 18446744073709551616 vY) (h4 : wq.heap[b4]? = some (.cells #[.bool false, .slice none 0 0] 24)) (h5 : wq.heap[b5]? = some (.cells #[.bool false, .slice none 0 0] 24)) (l1 : w0.heap.size ≤ pa) (l2 : pa < pb) (l3 : pb < b4) (l4 : b4 < b5) (G0 : Gr w0 wq) (hcs : (wq.cell? ⟨pb, 0, none⟩ = some (.bool t) ∧ wq.cell? ⟨pb, 1, none⟩ = some (.slice aY nY cY))) :
    Code.wp Try.prog (Code.region 6 #[{ dst := some 33, op := Op.move (Operand.tmp 6), type := 22, pos := "ints.go:79", after := #[], guard := none }, { dst := some 34, op := Op.call { callee := Callee.value (Operand.func 61), args := #[Operand.const (Value.int IntKind.u64 1)], argTypes := #[51] }, type := 22, pos := "ints.go:79", after := #[], guard := none }, { dst := some 35, op := Op.call { callee := Callee.value (Operand.func 60), args := #[Operand.tmp 33, Operand.tmp 34], argTypes := #[22, 22] }, type := 22, pos := "ints.go:79", after := #[{ on := 0, ground := Ground.data }, { on := 1, ground := Ground.data }, { on := 1, ground := Ground.chain }], guard := none }, { dst := some 36, op := Op.call { callee := Callee.value (Operand.func 40), args := #[Operand.const (Value.bool true), Operand.tmp 35], argTypes := #[4, 22] }, type := 24, pos := "ints.go:79", after := #[{ on := 2, ground := Ground.data }, { on := 2, ground := Ground.chain }], guard := none }, { dst := some 37, op := Op.fieldAddr 24 (Operand.tmp 3) 0, type := 0, pos := "ints.go:79", after := #[], guard := none }, { dst := some 38, op := Op.load 4 (Operand.tmp 37), type := 4, pos := "ints.go:79", after := #[{ on := 4, ground := Ground.data }], guard := none }, { dst := some 39, op := Op.fieldAddr 24 (Operand.tmp 3) 1, type := 0, pos := "ints.go:79", after := #[], guard := none }, { dst := some 40, op := Op.load 22 (Operand.tmp 39), type := 22, pos := "ints.go:79", after := #[{ on := 6, ground := Ground.data }], guard := none }, { dst := some 41, op := Op.move (Operand.tmp 7), type := 22, pos := "ints.go:79", after := #[], guard := none }, { dst := some 42, op := Op.call { callee := Callee.value (Operand.func 62), args := #[Operand.tmp 40, Operand.tmp 41], argTypes := #[22, 22] }, type := 22, pos := "ints.go:79", after := #[{ on := 7, ground := Ground.data }, { on := 8, ground := Ground.data }, { on := 3, ground := Ground.chain }], guard := none }, { dst := some 43, op := Op.call { callee := Callee.value (Operand.func 40), args := #[Operand.tmp 38, Operand.tmp 42], argTypes := #[4, 22] }, type := 24, pos := "ints.go:79", after := #[{ on := 5, ground := Ground.data }, { on := 9, ground := Ground.data }, { on := 9, ground := Ground.chain }], guard := none }, { dst := none, op := Op.store 24 (Operand.tmp 4) (Operand.tmp 36), type := 0, pos := "ints.go:79", after := #[{ on := 3, ground := Ground.data }, { on := 10, ground := Ground.chain }, { on := 0, ground := Ground.phase }, { on := 1, ground := Ground.phase }, { on := 2, ground := Ground.phase }, { on := 3, ground := Ground.phase }, { on := 4, ground := Ground.textOnly Departure.lateStores }, { on := 5, ground := Ground.textOnly Departure.lateStores }, { on := 6, ground := Ground.textOnly Departure.lateStores }, { on := 7, ground := Ground.textOnly Departure.lateStores }, { on := 8, ground := Ground.textOnly Departure.lateStores }, { on := 9, ground := Ground.textOnly Departure.lateStoresUnsure }, { on := 10, ground := Ground.textOnly Departure.lateStoresUnsure }], guard := none }, { dst := none, op := Op.store 24 (Operand.tmp 5) (Operand.tmp 43), type := 0, pos := "ints.go:79", after := #[{ on := 10, ground := Ground.data }, { on := 11, ground := Ground.chain }, { on := 0, ground := Ground.phase }, { on := 1, ground := Ground.phase }, { on := 2, ground := Ground.phase }, { on := 3, ground := Ground.phase }, { on := 4, ground := Ground.phase }, { on := 5, ground := Ground.phase }, { on := 6, ground := Ground.phase }, { on := 7, ground := Ground.phase }, { on := 8, ground := Ground.phase }, { on := 9, ground := Ground.phase }, { on := 10, ground := Ground.phase }, { on := 11, ground := Ground.phase }], guard := none }] true) (RIf6 t0 t1 t8 t9 t10 t11 t12 t13 t14 t15 t16 t17 t18 t19 t20 t21 t22 t23 t24 t25 t26 t27 t28 t29 t30 t31 t32 t33 t34 t35 t36 t37 t38 t39 t40 t41 t42 t43 pa pb b4 b5 nQ cQ nR cR nY cY vQ vR vY vS vT aQ aR aY t Z1 Z2 w0 wq) { tmps := #[t0, t1, .pointer (some ⟨pa, 0, none⟩), .pointer (some ⟨pb, 0, none⟩), .pointer (some ⟨b4, 0, none⟩), .pointer (some ⟨b5, 0, none⟩), .slice aQ nQ cQ, .slice aR nR cR, t8, t9, t10, t11, t12, t13, t14, t15, t16, t17, t18, t19, t20, t21, t22, t23, t24, t25, t26, t27, t28, t29, t30, t31, t32, t33, t34, t35, t36, t37, t38, t39, t40, t41, t42, t43], defers := [] } wq := by
  have hS0 : (wq.drew.cell? ⟨pb, 0, none⟩ = some (.bool t) ∧ wq.drew.cell? ⟨pb, 1, none⟩ = some (.slice aY nY cY)) ∧ Gr w0 wq.drew := ⟨hcs, G0.drew⟩
  have LQ_1 : Lim wq.drew aQ nQ cQ 18446744073709551616 vQ := hq.gr ((Gr.refl wq).drew)
  have LR_2 : Lim wq.drew aR nR cR 18446744073709551616 vR := hr.gr ((Gr.refl wq).drew)
  have LY_3 : Lim wq.drew aY nY cY 18446744073709551616 vY := hy.gr ((Gr.refl wq).drew)
  have B4_4 : wq.drew.heap[b4]? = some (.cells #[.bool false, .slice none 0 0] 24) := h4
  have B5_5 : wq.drew.heap[b5]? = some (.cells #[.bool false, .slice none 0 0] 24) := h5
  clear hcs G0 hq hr hy h4 h5
  refine wp_region_held_drew (S := fun w' => (w'.cell? ⟨pb, 0, none⟩ = some (.bool t) ∧ w'.cell? ⟨pb, 1, none⟩ = some (.slice aY nY cY)) ∧ Gr w0 w') (by kernel_rfl) hS0 (fun hHeld => ?_)
  clear hS0
  generalize wq.drew = wd at *
  refine wpAnyH_take (i := 0) (oi := ({ dst := some 33, op := Op.move (Operand.tmp 6), type := 22, pos := "ints.go:79", after := #[], guard := none } : Oper)) (v := ?_) rfl (by kernel_rfl) (by kernel_rfl) (by kernel_rfl) (fun _ _ _ h => h) (Or.inl ⟨by rfl, ?_⟩) (by with_reducible assumption) ?_
  rotate_left
  · intro w hSw
    (try dsimp only at hSw)
    first | (go_simp; done) | (go_simp; with_reducible rfl)
  (try simp only [Act.put, List.setIfInBounds_toArray, List.set_cons_zero, List.set_cons_succ])
  refine wpAnyH_take (i := 4) (oi := ({ dst := some 37, op := Op.fieldAddr 24 (Operand.tmp 3) 0, type := 0, pos := "ints.go:79", after := #[], guard := none } : Oper)) (v := ?_) rfl (by kernel_rfl) (by kernel_rfl) (by kernel_rfl) (fun _ _ _ h => h) (Or.inl ⟨by rfl, ?_⟩) (by with_reducible assumption) ?_
  rotate_left
  · intro w hSw
    (try dsimp only at hSw)
    first | (go_simp; done) | (go_simp; with_reducible rfl)
  (try simp only [Act.put, List.setIfInBounds_toArray, List.set_cons_zero, List.set_cons_succ])
  refine wpAnyH_take (i := 5) (oi := ({ dst := some 38, op := Op.load 4 (Operand.tmp 37), type := 4, pos := "ints.go:79", after := #[{ on := 4, ground := Ground.data }], guard := none } : Oper)) (v := ?_) rfl (by kernel_rfl) (by kernel_rfl) (by kernel_rfl) (fun _ _ _ h => h) (Or.inl ⟨by rfl, ?_⟩) (by with_reducible assumption) ?_
  rotate_left
  · intro w hSw
    (try dsimp only at hSw)
    first | (go_simp; done) | (go_simp; with_reducible rfl)
  (try simp only [Act.put, List.setIfInBounds_toArray, List.set_cons_zero, List.set_cons_succ])
  refine wpAnyH_take (i := 6) (oi := ({ dst := some 39, op := Op.fieldAddr 24 (Operand.tmp 3) 1, type := 0, pos := "ints.go:79", after := #[], guard := none } : Oper)) (v := ?_) rfl (by kernel_rfl) (by kernel_rfl) (by kernel_rfl) (fun _ _ _ h => h) (Or.inl ⟨by rfl, ?_⟩) (by with_reducible assumption) ?_
  rotate_left
  · intro w hSw
    (try dsimp only at hSw)
    first | (go_simp; done) | (go_simp; with_reducible rfl)
  (try simp only [Act.put, List.setIfInBounds_toArray, List.set_cons_zero, List.set_cons_succ])
  refine wpAnyH_take (i := 7) (oi := ({ dst := some 40, op := Op.load 22 (Operand.tmp 39), type := 22, pos := "ints.go:79", after := #[{ on := 6, ground := Ground.data }], guard := none } : Oper)) (v := ?_) rfl (by kernel_rfl) (by kernel_rfl) (by kernel_rfl) (fun _ _ _ h => h) (Or.inl ⟨by rfl, ?_⟩) (by with_reducible assumption) ?_
  rotate_left
  · intro w hSw
    (try dsimp only at hSw)
    first | (go_simp; done) | (go_simp; with_reducible rfl)
  (try simp only [Act.put, List.setIfInBounds_toArray, List.set_cons_zero, List.set_cons_succ])
  refine wpAnyH_take (i := 8) (oi := ({ dst := some 41, op := Op.move (Operand.tmp 7), type := 22, pos := "ints.go:79", after := #[], guard := none } : Oper)) (v := ?_) rfl (by kernel_rfl) (by kernel_rfl) (by kernel_rfl) (fun _ _ _ h => h) (Or.inl ⟨by rfl, ?_⟩) (by with_reducible assumption) ?_
  rotate_left
  · intro w hSw
    (try dsimp only at hSw)
    first | (go_simp; done) | (go_simp; with_reducible rfl)
  (try simp only [Act.put, List.setIfInBounds_toArray, List.set_cons_zero, List.set_cons_succ])
  refine wpAnyH_ready (rs := [1]) (by kernel_rfl) (by simp) ?_
  refine AllReadyH.cons (o := ({ dst := some 34, op := Op.call { callee := Callee.value (Operand.func 61), args := #[Operand.const (Value.int IntKind.u64 1)], argTypes := #[51] }, type := 22, pos := "ints.go:79", after := #[], guard := none } : Oper)) rfl (fun K hK => ?_) AllReadyH.nil
  go_simp
  with_reducible refine (X3.out _ hHeld.2).mono ?_
  rintro r wc6 ⟨aO, nO, cO, rfl, LO_9, gg8⟩
  refine hK.out _ _ ⟨⟨keepG gg8 hHeld.1.1, keepG gg8 hHeld.1.2⟩, hHeld.2.trans gg8⟩ (fun hH7 => ?_)
  have hzwc6 := hHeld.2.size
  clear hK K
  (try simp only [Act.put, List.setIfInBounds_toArray, List.set_cons_zero, List.set_cons_succ])
  have LQ_10 := LQ_1.gr gg8
  clear LQ_1
  have LR_11 := LR_2.gr gg8
  clear LR_2
  have LY_12 := LY_3.gr gg8
  clear LY_3
  have B4_13 := keepO gg8 B4_4
  clear B4_4
  have B5_14 := keepO gg8 B5_5
  clear B5_5
  refine wpAnyH_ready (rs := [2]) (by kernel_rfl) (by simp) ?_
  refine AllReadyH.cons (o := ({ dst := some 35, op := Op.call { callee := Callee.value (Operand.func 60), args := #[Operand.tmp 33, Operand.tmp 34], argTypes := #[22, 22] }, type := 22, pos := "ints.go:79", after := #[{ on := 0, ground := Ground.data }, { on := 1, ground := Ground.data }, { on := 1, ground := Ground.chain }], guard := none } : Oper)) rfl (fun K hK => ?_) AllReadyH.nil
  go_simp
  with_reducible refine (X4.out _ _ _ _ hH7.2 LQ_10 LO_9).mono ?_
  rintro r wc15 ⟨aS, nS, cS, rfl, LS_18, gg17⟩
  refine hK.out _ _ ⟨⟨keepG gg17 hH7.1.1, keepG gg17 hH7.1.2⟩, hH7.2.trans gg17⟩ (fun hH16 => ?_)
  have hzwc15 := hH7.2.size
  clear hK K
  (try simp only [Act.put, List.setIfInBounds_toArray, List.set_cons_zero, List.set_cons_succ])
  clear LQ_10
  clear LO_9
  have LR_19 := LR_11.gr gg17
  clear LR_11
  have LY_20 := LY_12.gr gg17
  clear LY_12
  have B4_21 := keepO gg17 B4_13
  clear B4_13
  have B5_22 := keepO gg17 B5_14
  clear B5_14
  refine wpAnyH_ready (rs := [3]) (by kernel_rfl) (by simp) ?_
  refine AllReadyH.cons (o := ({ dst := some 36, op := Op.call { callee := Callee.value (Operand.func 40), args := #[Operand.const (Value.bool true), Operand.tmp 35], argTypes := #[4, 22] }, type := 24, pos := "ints.go:79", after := #[{ on := 2, ground := Ground.data }, { on := 2, ground := Ground.chain }], guard := none } : Oper)) rfl (fun K hK => ?_) AllReadyH.nil
  go_simp
  with_reducible refine (X1.out _ _ _ _ hH16.2 LS_18).mono ?_
  rintro r wc23 ⟨e1, q1, m1, d1, rfl, W1_26, F1_27, gg25⟩
  replace W1_26 := W1_26.out
  replace F1_27 := F1_27.out
  refine hK.out _ _ ⟨⟨keepG gg25 hH16.1.1, keepG gg25 hH16.1.2⟩, hH16.2.trans gg25⟩ (fun hH24 => ?_)
  have hzwc23 := hH16.2.size
  clear hK K
  (try simp only [Act.put, List.setIfInBounds_toArray, List.set_cons_zero, List.set_cons_succ])
  clear LS_18
  have LR_28 := LR_19.gr gg25
  clear LR_19
  have LY_29 := LY_20.gr gg25
  clear LY_20
  have B4_30 := keepO gg25 B4_21
  clear B4_21
  have B5_31 := keepO gg25 B5_22
  clear B5_22
  refine wpAnyH_ready (rs := [9]) (by kernel_rfl) (by simp) ?_
  refine AllReadyH.cons (o := ({ dst := some 42, op := Op.call { callee := Callee.value (Operand.func 62), args := #[Operand.tmp 40, Operand.tmp 41], argTypes := #[22, 22] }, type := 22, pos := "ints.go:79", after := #[{ on := 7, ground := Ground.data }, { on := 8, ground := Ground.data }, { on := 3, ground := Ground.chain }], guard := none } : Oper)) rfl (fun K hK => ?_) AllReadyH.nil
  go_simp
  with_reducible refine (X5.out _ hH24.2 LY_29 LR_28).mono ?_
  rintro r wc32 ⟨aT, nT, cT, rfl, LT_35, gg34⟩
  refine hK.out _ _ ⟨⟨keepG gg34 hH24.1.1, keepG gg34 hH24.1.2⟩, hH24.2.trans gg34⟩ (fun hH33 => ?_)
  have hzwc32 := hH24.2.size
  clear hK K
  (try simp only [Act.put, List.setIfInBounds_toArray, List.set_cons_zero, List.set_cons_succ])
  clear LY_29
  clear LR_28
  have B4_36 := keepO gg34 B4_30
  clear B4_30
  have B5_37 := keepO gg34 B5_31
  clear B5_31
  have W1_38 := W1_26.gr gg34
  clear W1_26
  have F1_39 := F1_27.gr gg34
  clear F1_27
  refine wpAnyH_ready (rs := [10]) (by kernel_rfl) (by simp) ?_
  refine AllReadyH.cons (o := ({ dst := some 43, op := Op.call { callee := Callee.value (Operand.func 40), args := #[Operand.tmp 38, Operand.tmp 42], argTypes := #[4, 22] }, type := 24, pos := "ints.go:79", after := #[{ on := 5, ground := Ground.data }, { on := 9, ground := Ground.data }, { on := 9, ground := Ground.chain }], guard := none } : Oper)) rfl (fun K hK => ?_) AllReadyH.nil
  go_simp
  with_reducible refine (X2.out _ _ _ _ hH33.2 LT_35).mono ?_
  rintro r wc40 ⟨e2, q2, m2, d2, rfl, W2_43, F2_44, gg42⟩
  replace W2_43 := W2_43.out
  replace F2_44 := F2_44.out
  refine hK.out _ _ ⟨⟨keepG gg42 hH33.1.1, keepG gg42 hH33.1.2⟩, hH33.2.trans gg42⟩ (fun hH41 => ?_)
  have hzwc40 := hH33.2.size
  clear hK K
  (try simp only [Act.put, List.setIfInBounds_toArray, List.set_cons_zero, List.set_cons_succ])
  clear LT_35
  have B4_45 := keepO gg42 B4_36
  clear B4_36
  have B5_46 := keepO gg42 B5_37
  clear B5_37
  have W1_47 := W1_38.gr gg42
  clear W1_38
  have F1_48 := F1_39.gr gg42
  clear F1_39
  refine wpAnyH_ready (rs := [11]) (by kernel_rfl) (by simp) ?_
  refine AllReadyH.cons (o := ({ dst := none, op := Op.store 24 (Operand.tmp 4) (Operand.tmp 36), type := 0, pos := "ints.go:79", after := #[{ on := 3, ground := Ground.data }, { on := 10, ground := Ground.chain }, { on := 0, ground := Ground.phase }, { on := 1, ground := Ground.phase }, { on := 2, ground := Ground.phase }, { on := 3, ground := Ground.phase }, { on := 4, ground := Ground.textOnly Departure.lateStores }, { on := 5, ground := Ground.textOnly Departure.lateStores }, { on := 6, ground := Ground.textOnly Departure.lateStores }, { on := 7, ground := Ground.textOnly Departure.lateStores }, { on := 8, ground := Ground.textOnly Departure.lateStores }, { on := 9, ground := Ground.textOnly Departure.lateStoresUnsure }, { on := 10, ground := Ground.textOnly Departure.lateStoresUnsure }], guard := none } : Oper)) rfl (fun K hK => ?_) AllReadyH.nil
  obtain ⟨t0', t1', u0', u1'⟩ := outAny B4_45
  go_simp
  refine hK.out _ _ ⟨⟨far2 (B := b4) (by omega) hH41.1.1, far2 (B := b4) (by omega) hH41.1.2⟩, ((hH41.2.setCell (p := ⟨b4, 0, none⟩) (by show _ ≤ b4; omega) _).setCell (p := ⟨b4, 1, none⟩) (by show _ ≤ b4; omega) _)⟩ (fun hS49 => ?_)
  clear hK K t0' t1' u0' u1'
  (try simp only [Act.put, List.setIfInBounds_toArray, List.set_cons_zero, List.set_cons_succ])
  have B5_50 := heap_farW (q := b4) (i := 1) (v := .slice q1 m1 d1) (heap_farW (q := b4) (i := 0) (v := .bool e1) B5_46 (by omega)) (by omega)
  have W1_51 := wh_set2W W1_47 F1_48 B4_45 (.bool e1) (.slice q1 m1 d1) (by decide)
  have F1_52 := fresh_set2 F1_48 B4_45 (.bool e1) (.slice q1 m1 d1) (by decide)
  have W2_53 := wh_set2W W2_43 F2_44 B4_45 (.bool e1) (.slice q1 m1 d1) (by decide)
  have F2_54 := fresh_set2 F2_44 B4_45 (.bool e1) (.slice q1 m1 d1) (by decide)
  have B4_55 := put2_block B4_45 (.bool e1) (.slice q1 m1 d1)
  clear B5_46 W1_47 F1_48 W2_43 F2_44 B4_45
  refine wpAnyH_ready (rs := [12]) (by kernel_rfl) (by simp) ?_
  refine AllReadyH.cons (o := ({ dst := none, op := Op.store 24 (Operand.tmp 5) (Operand.tmp 43), type := 0, pos := "ints.go:79", after := #[{ on := 10, ground := Ground.data }, { on := 11, ground := Ground.chain }, { on := 0, ground := Ground.phase }, { on := 1, ground := Ground.phase }, { on := 2, ground := Ground.phase }, { on := 3, ground := Ground.phase }, { on := 4, ground := Ground.phase }, { on := 5, ground := Ground.phase }, { on := 6, ground := Ground.phase }, { on := 7, ground := Ground.phase }, { on := 8, ground := Ground.phase }, { on := 9, ground := Ground.phase }, { on := 10, ground := Ground.phase }, { on := 11, ground := Ground.phase }], guard := none } : Oper)) rfl (fun K hK => ?_) AllReadyH.nil
  obtain ⟨t0', t1', u0', u1'⟩ := outAny B5_50
  go_simp
  refine hK.out _ _ ⟨⟨far2 (B := b5) (by omega) hS49.1.1, far2 (B := b5) (by omega) hS49.1.2⟩, ((hS49.2.setCell (p := ⟨b5, 0, none⟩) (by show _ ≤ b5; omega) _).setCell (p := ⟨b5, 1, none⟩) (by show _ ≤ b5; omega) _)⟩ (fun hS56 => ?_)
  clear hK K t0' t1' u0' u1'
  (try simp only [Act.put, List.setIfInBounds_toArray, List.set_cons_zero, List.set_cons_succ])
  have B4_57 := heap_farW (q := b5) (i := 1) (v := .slice q2 m2 d2) (heap_farW (q := b5) (i := 0) (v := .bool e2) B4_55 (by omega)) (by omega)
  have W1_58 := wh_set2W W1_51 F1_52 B5_50 (.bool e2) (.slice q2 m2 d2) (by decide)
  have F1_59 := fresh_set2 F1_52 B5_50 (.bool e2) (.slice q2 m2 d2) (by decide)
  have W2_60 := wh_set2W W2_53 F2_54 B5_50 (.bool e2) (.slice q2 m2 d2) (by decide)
  have F2_61 := fresh_set2 F2_54 B5_50 (.bool e2) (.slice q2 m2 d2) (by decide)
  have B5_62 := put2_block B5_50 (.bool e2) (.slice q2 m2 d2)
  clear B4_55 W1_51 F1_52 W2_53 F2_54 B5_50
  refine wpAnyH_done (by kernel_rfl) ?_ _
  exact ⟨_, _, _, _, _, _, _, _, _, _, _, e1, q1, m1, d1, e2, q2, m2, d2, rfl, B4_57, B5_62, W1_58, W2_60, F1_59, F2_61, hS56.2⟩
def RRf5 (t0 t1 t2 t3 t6 t7 t10 t11 t12 t13 t14 t15 t16 t17 t18 t19 t20 t21 t22 t23 t24 t25 : Value) (b4 b5 p8 p9 : Nat) (e1 e2 : Bool) (q1 q2 : Option Addr) (m1 d1 m2 d2 : Nat) (Z1 Z2 : Int) (w0 : World) (wq : World) : Exit → Act → World → Prop
  | .normal, a, w => ∃ u24 u25, a = { tmps := #[t0, t1, t2, t3, .pointer (some ⟨b4, 0, none⟩), .pointer (some ⟨b5, 0, none⟩), .int .i64 0, t7, .pointer (some ⟨p8, 0, none⟩), .pointer (some ⟨p9, 0, none⟩), t10, t11, t12, t13, t14, t15, t16, t17, t18, t19, t20, t21, t22, t23, u24, u25], defers := [] } ∧ w.heap[b4]? = some (.cells #[.bool e1, .slice q1 m1 d1] 24) ∧ w.heap[b5]? = some (.cells #[.bool e2, .slice q2 m2 d2] 24) ∧ Wh w e1 q1 m1 d1 Z1 ∧ Wh w e2 q2 m2 d2 Z2 ∧ Fresh w0.heap.size w q1 m1 d1 ∧ Fresh w0.heap.size w q2 m2 d2 ∧ Gr w0 w
  | _, _, _ => False
set_option maxRecDepth 100000 in
set_option maxHeartbeats 20000000 in
theorem regRf5 (t0 t1 t2 t3 t6 t7 t10 t11 t12 t13 t14 t15 t16 t17 t18 t19 t20 t21 t22 t23 t24 t25 : Value) (b4 b5 p8 p9 : Nat) (e1 e2 : Bool) (q1 q2 : Option Addr) (m1 d1 m2 d2 : Nat) (Z1 Z2 : Int) (w0 : World) (wq : World)
    (h4 : wq.heap[b4]? = some (.cells #[.bool false, .slice none 0 0] 24)) (h5 : wq.heap[b5]? = some (.cells #[.bool false, .slice none 0 0] 24)) (hw1 : Wh wq e1 q1 m1 d1 Z1) (hw2 : Wh wq e2 q2 m2 d2 Z2) (hf1 : Fresh w0.heap.size wq q1 m1 d1) (hf2 : Fresh w0.heap.size wq q2 m2 d2) (l1 : w0.heap.size ≤ b4) (l2 : b4 < b5) (l3 : b5 < p8) (l4 : p8 < p9) (G0 : Gr w0 wq) (hcs : (wq.cell? ⟨p8, 0, none⟩ = some (.bool e1) ∧ wq.cell? ⟨p8, 1, none⟩ = some (.slice q1 m1 d1) ∧ wq.cell? ⟨p9, 0, none⟩ = some (.bool e2) ∧ wq.cell? ⟨p9, 1, none⟩ = some (.slice q2 m2 d2))) :
    Code.wp Try.prog (Code.region 5 #[{ dst := some 24, op := Op.load 24 (Operand.tmp 8), type := 24, pos := "ref.go:32", after := #[], guard := none }, { dst := some 25, op := Op.load 24 (Operand.tmp 9), type := 24, pos := "ref.go:32", after := #[{ on := 2, ground := Ground.gcOnly Departure.lateStores }], guard := none }, { dst := none, op := Op.store 24 (Operand.tmp 4) (Operand.tmp 24), type := 0, pos := "ref.go:32", after := #[{ on := 0, ground := Ground.data }, { on := 0, ground := Ground.phase }, { on := 1, ground := Ground.textOnly Departure.lateStores }], guard := none }, { dst := none, op := Op.store 24 (Operand.tmp 5) (Operand.tmp 25), type := 0, pos := "ref.go:32", after := #[{ on := 1, ground := Ground.data }, { on := 2, ground := Ground.chain }, { on := 0, ground := Ground.phase }, { on := 1, ground := Ground.phase }, { on := 2, ground := Ground.phase }], guard := none }, { dst := some 6, op := Op.assign (Operand.const (Value.int IntKind.i64 0)), type := 28, pos := "ref.go:32", after := #[{ on := 3, ground := Ground.chain }, { on := 0, ground := Ground.phase }, { on := 1, ground := Ground.phase }, { on := 2, ground := Ground.phase }, { on := 3, ground := Ground.phase }], guard := none }] true) (RRf5 t0 t1 t2 t3 t6 t7 t10 t11 t12 t13 t14 t15 t16 t17 t18 t19 t20 t21 t22 t23 t24 t25 b4 b5 p8 p9 e1 e2 q1 q2 m1 d1 m2 d2 Z1 Z2 w0 wq) { tmps := #[t0, t1, t2, t3, .pointer (some ⟨b4, 0, none⟩), .pointer (some ⟨b5, 0, none⟩), t6, t7, .pointer (some ⟨p8, 0, none⟩), .pointer (some ⟨p9, 0, none⟩), t10, t11, t12, t13, t14, t15, t16, t17, t18, t19, t20, t21, t22, t23, t24, t25], defers := [] } wq := by
  have hS0 : (wq.drew.cell? ⟨p8, 0, none⟩ = some (.bool e1) ∧ wq.drew.cell? ⟨p8, 1, none⟩ = some (.slice q1 m1 d1) ∧ wq.drew.cell? ⟨p9, 0, none⟩ = some (.bool e2) ∧ wq.drew.cell? ⟨p9, 1, none⟩ = some (.slice q2 m2 d2)) ∧ Gr w0 wq.drew := ⟨hcs, G0.drew⟩
  have B4_1 : wq.drew.heap[b4]? = some (.cells #[.bool false, .slice none 0 0] 24) := h4
  have B5_2 : wq.drew.heap[b5]? = some (.cells #[.bool false, .slice none 0 0] 24) := h5
  have W1_3 : Wh wq.drew e1 q1 m1 d1 Z1 := hw1.gr ((Gr.refl wq).drew)
  have W2_4 : Wh wq.drew e2 q2 m2 d2 Z2 := hw2.gr ((Gr.refl wq).drew)
  have F1_5 : Fresh w0.heap.size wq.drew q1 m1 d1 := hf1
  have F2_6 : Fresh w0.heap.size wq.drew q2 m2 d2 := hf2
  clear hcs G0 h4 h5 hw1 hw2 hf1 hf2
  refine wp_region_held_drew (S := fun w' => (w'.cell? ⟨p8, 0, none⟩ = some (.bool e1) ∧ w'.cell? ⟨p8, 1, none⟩ = some (.slice q1 m1 d1) ∧ w'.cell? ⟨p9, 0, none⟩ = some (.bool e2) ∧ w'.cell? ⟨p9, 1, none⟩ = some (.slice q2 m2 d2)) ∧ Gr w0 w') (by kernel_rfl) hS0 (fun hHeld => ?_)
  clear hS0
  generalize wq.drew = wd at *
  refine wpAnyH_take (i := 0) (oi := ({ dst := some 24, op := Op.load 24 (Operand.tmp 8), type := 24, pos := "ref.go:32", after := #[], guard := none } : Oper)) (v := ?_) rfl (by kernel_rfl) (by kernel_rfl) (by kernel_rfl) (fun _ _ _ h => h) (Or.inl ⟨by rfl, ?_⟩) (by with_reducible assumption) ?_
  rotate_left
  · intro w hSw
    (try dsimp only at hSw)
    first | (go_simp; done) | (go_simp; with_reducible rfl)
  (try simp only [Act.put, List.setIfInBounds_toArray, List.set_cons_zero, List.set_cons_succ])
  refine wpAnyH_take (i := 1) (oi := ({ dst := some 25, op := Op.load 24 (Operand.tmp 9), type := 24, pos := "ref.go:32", after := #[{ on := 2, ground := Ground.gcOnly Departure.lateStores }], guard := none } : Oper)) (v := ?_) rfl (by kernel_rfl) (by kernel_rfl) (by kernel_rfl) (fun _ _ _ h => h) (Or.inl ⟨by rfl, ?_⟩) (by with_reducible assumption) ?_
  rotate_left
  · intro w hSw
    (try dsimp only at hSw)
    first | (go_simp; done) | (go_simp; with_reducible rfl)
  (try simp only [Act.put, List.setIfInBounds_toArray, List.set_cons_zero, List.set_cons_succ])
  refine wpAnyH_ready (rs := [2]) (by kernel_rfl) (by simp) ?_
  refine AllReadyH.cons (o := ({ dst := none, op := Op.store 24 (Operand.tmp 4) (Operand.tmp 24), type := 0, pos := "ref.go:32", after := #[{ on := 0, ground := Ground.data }, { on := 0, ground := Ground.phase }, { on := 1, ground := Ground.textOnly Departure.lateStores }], guard := none } : Oper)) rfl (fun K hK => ?_) AllReadyH.nil
  obtain ⟨t0', t1', u0', u1'⟩ := outAny B4_1
  go_simp
  refine hK.out _ _ ⟨⟨far2 (B := b4) (by omega) hHeld.1.1, far2 (B := b4) (by omega) hHeld.1.2.1, far2 (B := b4) (by omega) hHeld.1.2.2.1, far2 (B := b4) (by omega) hHeld.1.2.2.2⟩, ((hHeld.2.setCell (p := ⟨b4, 0, none⟩) (by show _ ≤ b4; omega) _).setCell (p := ⟨b4, 1, none⟩) (by show _ ≤ b4; omega) _)⟩ (fun hS7 => ?_)
  clear hK K t0' t1' u0' u1'
  (try simp only [Act.put, List.setIfInBounds_toArray, List.set_cons_zero, List.set_cons_succ])
  have B5_8 := heap_farW (q := b4) (i := 1) (v := .slice q1 m1 d1) (heap_farW (q := b4) (i := 0) (v := .bool e1) B5_2 (by omega)) (by omega)
  have W1_9 := wh_set2W W1_3 F1_5 B4_1 (.bool e1) (.slice q1 m1 d1) (by decide)
  have W2_10 := wh_set2W W2_4 F2_6 B4_1 (.bool e1) (.slice q1 m1 d1) (by decide)
  have F1_11 := fresh_set2 F1_5 B4_1 (.bool e1) (.slice q1 m1 d1) (by decide)
  have F2_12 := fresh_set2 F2_6 B4_1 (.bool e1) (.slice q1 m1 d1) (by decide)
  have B4_13 := put2_block B4_1 (.bool e1) (.slice q1 m1 d1)
  clear B5_2 W1_3 W2_4 F1_5 F2_6 B4_1
  refine wpAnyH_ready (rs := [3]) (by kernel_rfl) (by simp) ?_
  refine AllReadyH.cons (o := ({ dst := none, op := Op.store 24 (Operand.tmp 5) (Operand.tmp 25), type := 0, pos := "ref.go:32", after := #[{ on := 1, ground := Ground.data }, { on := 2, ground := Ground.chain }, { on := 0, ground := Ground.phase }, { on := 1, ground := Ground.phase }, { on := 2, ground := Ground.phase }], guard := none } : Oper)) rfl (fun K hK => ?_) AllReadyH.nil
  obtain ⟨t0', t1', u0', u1'⟩ := outAny B5_8
  go_simp
  refine hK.out _ _ ⟨⟨far2 (B := b5) (by omega) hS7.1.1, far2 (B := b5) (by omega) hS7.1.2.1, far2 (B := b5) (by omega) hS7.1.2.2.1, far2 (B := b5) (by omega) hS7.1.2.2.2⟩, ((hS7.2.setCell (p := ⟨b5, 0, none⟩) (by show _ ≤ b5; omega) _).setCell (p := ⟨b5, 1, none⟩) (by show _ ≤ b5; omega) _)⟩ (fun hS14 => ?_)
  clear hK K t0' t1' u0' u1'
  (try simp only [Act.put, List.setIfInBounds_toArray, List.set_cons_zero, List.set_cons_succ])
  have B4_15 := heap_farW (q := b5) (i := 1) (v := .slice q2 m2 d2) (heap_farW (q := b5) (i := 0) (v := .bool e2) B4_13 (by omega)) (by omega)
  have W1_16 := wh_set2W W1_9 F1_11 B5_8 (.bool e2) (.slice q2 m2 d2) (by decide)
  have W2_17 := wh_set2W W2_10 F2_12 B5_8 (.bool e2) (.slice q2 m2 d2) (by decide)
  have F1_18 := fresh_set2 F1_11 B5_8 (.bool e2) (.slice q2 m2 d2) (by decide)
  have F2_19 := fresh_set2 F2_12 B5_8 (.bool e2) (.slice q2 m2 d2) (by decide)
  have B5_20 := put2_block B5_8 (.bool e2) (.slice q2 m2 d2)
  clear B4_13 W1_9 W2_10 F1_11 F2_12 B5_8
  refine wpAnyH_take (i := 4) (oi := ({ dst := some 6, op := Op.assign (Operand.const (Value.int IntKind.i64 0)), type := 28, pos := "ref.go:32", after := #[{ on := 3, ground := Ground.chain }, { on := 0, ground := Ground.phase }, { on := 1, ground := Ground.phase }, { on := 2, ground := Ground.phase }, { on := 3, ground := Ground.phase }], guard := none } : Oper)) (v := ?_) rfl (by kernel_rfl) (by kernel_rfl) (by kernel_rfl) (fun _ _ _ h => h) (Or.inl ⟨by rfl, ?_⟩) (by with_reducible assumption) ?_
  rotate_left
  · intro w hSw
    (try dsimp only at hSw)
    first | (go_simp; done) | (go_simp; with_reducible rfl)
  (try simp only [Act.put, List.setIfInBounds_toArray, List.set_cons_zero, List.set_cons_succ])
  refine wpAnyH_done (by kernel_rfl) ?_ _
  exact ⟨_, _, rfl, B4_15, B5_20, W1_16, W2_17, F1_18, F2_19, hS14.2⟩
end Go.Proofs.Ytobceegpcimdgaa
