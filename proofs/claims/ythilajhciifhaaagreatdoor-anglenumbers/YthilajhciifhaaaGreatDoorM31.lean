import Derived.Test.YthilajhciifhaaaGreatDoorM30
import Derived.Deep.RegionHeld3
namespace Go.Proofs.YthilajhciifhaaaGreatDoor
open Go.RowKit
set_option linter.unusedVariables false
set_option linter.unusedSimpArgs false
def R694 (t2 t3 t4 t6 t7 t9 t10 t11 t12 t13 t14 t15 t16 t17 t18 t19 t20 t21 t22 t23 t24 t25 t26 t27 t28 t29 t30 t31 t32 t33 t34 t35 t36 t37 t38 t39 t40 t41 t42 t43 t44 : Value) (B bb : Nat) (o st b p V1 V2 V3 V4 : Int) (wq : World) : Exit → Act → World → Prop
  | .normal, a, w => ∃ u22 u23 u24 u25 u26 u27 u28 bN s3 a3 n3 c3 e3 s4 a4 n4 c4 e4 s5 a5 n5 c5 e5 s6 a6 n6 c6 e6, a = { tmps := #[.int .i64 o, .int .i64 st, t2, t3, t4, .pointer (some ⟨bb, 0, none⟩), t6, t7, .pointer (some ⟨B, 0, none⟩), .pointer (some ⟨bN, 0, none⟩), t10, t11, t12, t13, t14, t15, t16, t17, t18, t19, t20, t21, u22, u23, u24, u25, u26, u27, u28, t29, t30, t31, t32, t33, t34, t35, t36, t37, t38, t39, t40, t41, t42, t43, t44], defers := [] } ∧ w.heap[bN]? = some (.cells #[.bool s3, .slice a3 n3 c3, .int .i64 e3, .bool s4, .slice a4 n4 c4, .int .i64 e4, .bool s5, .slice a5 n5 c5, .int .i64 e5, .bool s6, .slice a6 n6 c6, .int .i64 e6] 106) ∧ DyV w s3 a3 n3 c3 e3 V1 ∧ DyV w s4 a4 n4 c4 e4 V2 ∧ DyV w s5 a5 n5 c5 e5 V3 ∧ DyV w s6 a6 n6 c6 e6 V4 ∧ wq.heap.size ≤ bN ∧ Gr wq w
  | _, _, _ => False
set_option maxRecDepth 100000 in
set_option maxHeartbeats 4000000 in
theorem reg694 (t2 t3 t4 t6 t7 t9 t10 t11 t12 t13 t14 t15 t16 t17 t18 t19 t20 t21 t22 t23 t24 t25 t26 t27 t28 t29 t30 t31 t32 t33 t34 t35 t36 t37 t38 t39 t40 t41 t42 t43 t44 : Value) (B bb : Nat) (o st b p V1 V2 V3 V4 : Int) (wq : World) (hb0 : 0 ≤ b) (hb1 : b ≤ 2048)
    (PO : Hid (∀ w1, Calls Tryz.prog 72 #[.int .i64 o, .int .i64 st] w1 fun r w' => r = .returned (.int .i64 p) ∧ w' = w1))
    (NA : Hid (∀ w1, Gr wq w1 → Calls Tryz.prog 71 #[.pointer (some ⟨B, 0, none⟩), .int .i64 p, .int .i64 (IntKind.i64.wrap (b + 32)), .func (.func 121) #[] #[.pointer (some ⟨B, 0, none⟩), .pointer (some ⟨bb, 0, none⟩)]] w1 fun r w' => (∃ v, r = .returned v ∧ Bv w' v V1 V2 V3 V4) ∧ Gr w1 w'))
    (hbb : bb < wq.heap.size) (hcs : (wq.cell? ⟨bb, 0, none⟩ = some (.int .i64 b))) :
    Code.wp Tryz.prog (Code.region 4 #[{ dst := some 22, op := Op.move (Operand.tmp 0), type := 3, pos := "angle.go:50", after := #[], guard := none }, { dst := some 23, op := Op.move (Operand.tmp 1), type := 3, pos := "angle.go:50", after := #[], guard := none }, { dst := some 24, op := Op.call { callee := Callee.value (Operand.func 72), args := #[Operand.tmp 22, Operand.tmp 23], argTypes := #[3, 3] }, type := 3, pos := "angle.go:50", after := #[{ on := 0, ground := Ground.data }, { on := 1, ground := Ground.data }], guard := none }, { dst := some 25, op := Op.load 3 (Operand.tmp 5), type := 3, pos := "angle.go:50", after := #[], guard := none }, { dst := some 26, op := Op.binOp BinOp.add 3 (Operand.tmp 25) (Operand.const (Value.int IntKind.i64 32)) 3, type := 3, pos := "angle.go:50", after := #[{ on := 3, ground := Ground.data }], guard := none }, { dst := some 27, op := Op.makeFunc (Fn.func 121) #[] #[Operand.tmp 8, Operand.tmp 5], type := 113, pos := "angle.go:50", after := #[], guard := none }, { dst := some 28, op := Op.call { callee := Callee.value (Operand.func 71), args := #[Operand.tmp 8, Operand.tmp 24, Operand.tmp 26, Operand.tmp 27], argTypes := #[110, 3, 3, 113] }, type := 106, pos := "angle.go:50", after := #[{ on := 2, ground := Ground.data }, { on := 4, ground := Ground.data }, { on := 5, ground := Ground.data }, { on := 2, ground := Ground.chain }], guard := none }, { dst := some 9, op := Op.alloc 106, type := 0, pos := "angle.go:50", after := #[], guard := none }, { dst := none, op := Op.store 106 (Operand.tmp 9) (Operand.tmp 28), type := 0, pos := "angle.go:50", after := #[{ on := 7, ground := Ground.data }, { on := 6, ground := Ground.data }, { on := 6, ground := Ground.chain }, { on := 0, ground := Ground.phase }, { on := 1, ground := Ground.phase }, { on := 2, ground := Ground.phase }, { on := 3, ground := Ground.phase }, { on := 4, ground := Ground.phase }, { on := 5, ground := Ground.phase }, { on := 6, ground := Ground.phase }, { on := 7, ground := Ground.phase }], guard := none }] true) (R694 t2 t3 t4 t6 t7 t9 t10 t11 t12 t13 t14 t15 t16 t17 t18 t19 t20 t21 t22 t23 t24 t25 t26 t27 t28 t29 t30 t31 t32 t33 t34 t35 t36 t37 t38 t39 t40 t41 t42 t43 t44 B bb o st b p V1 V2 V3 V4 wq) { tmps := #[.int .i64 o, .int .i64 st, t2, t3, t4, .pointer (some ⟨bb, 0, none⟩), t6, t7, .pointer (some ⟨B, 0, none⟩), t9, t10, t11, t12, t13, t14, t15, t16, t17, t18, t19, t20, t21, t22, t23, t24, t25, t26, t27, t28, t29, t30, t31, t32, t33, t34, t35, t36, t37, t38, t39, t40, t41, t42, t43, t44], defers := [] } wq := by
  have hS0 : (wq.drew.cell? ⟨bb, 0, none⟩ = some (.int .i64 b)) ∧ Gr wq wq.drew := ⟨hcs, (Gr.refl wq).drew⟩
  clear hcs
  refine wp_region_held_drew (S := fun w' => (w'.cell? ⟨bb, 0, none⟩ = some (.int .i64 b)) ∧ Gr wq w') (by kernel_rfl) hS0 (fun hHeld => ?_)
  clear hS0
  generalize wq.drew = wd at *
  refine wpAnyH_take (i := 0) (oi := _) (v := ?_) rfl (by kernel_rfl) (by kernel_rfl) (by kernel_rfl) (fun _ _ _ h => h) (Or.inl ⟨by rfl, ?_⟩) (by with_reducible assumption) ?_
  rotate_left
  · intro w hSw
    (try dsimp only at hSw)
    first | (go_simp; done) | (go_simp; with_reducible rfl)
  (try simp only [Act.put, List.setIfInBounds_toArray, List.set_cons_zero, List.set_cons_succ])
  refine wpAnyH_take (i := 1) (oi := _) (v := ?_) rfl (by kernel_rfl) (by kernel_rfl) (by kernel_rfl) (fun _ _ _ h => h) (Or.inl ⟨by rfl, ?_⟩) (by with_reducible assumption) ?_
  rotate_left
  · intro w hSw
    (try dsimp only at hSw)
    first | (go_simp; done) | (go_simp; with_reducible rfl)
  (try simp only [Act.put, List.setIfInBounds_toArray, List.set_cons_zero, List.set_cons_succ])
  refine wpAnyH_take (i := 3) (oi := _) (v := ?_) rfl (by kernel_rfl) (by kernel_rfl) (by kernel_rfl) (fun _ _ _ h => h) (Or.inl ⟨by rfl, ?_⟩) (by with_reducible assumption) ?_
  rotate_left
  · intro w hSw
    (try dsimp only at hSw)
    first | (go_simp; done) | (go_simp; with_reducible rfl)
  (try simp only [Act.put, List.setIfInBounds_toArray, List.set_cons_zero, List.set_cons_succ])
  refine wpAnyH_take (i := 4) (oi := _) (v := ?_) rfl (by kernel_rfl) (by kernel_rfl) (by kernel_rfl) (fun _ _ _ h => h) (Or.inl ⟨by rfl, ?_⟩) (by with_reducible assumption) ?_
  rotate_left
  · intro w hSw
    (try dsimp only at hSw)
    first | (go_simp; done) | (go_simp; with_reducible rfl)
  (try simp only [Act.put, List.setIfInBounds_toArray, List.set_cons_zero, List.set_cons_succ])
  refine wpAnyH_ready (rs := [2, 5, 7]) (by kernel_rfl) (by simp) ?_
  refine AllReadyH.cons (o := _) rfl (fun K hK => ?_) ?_
  · go_simp
    with_reducible refine (PO.out _).mono ?_
    rintro r wz ⟨rfl, hwz⟩
    rw [hwz]
    clear hwz wz
    refine hK.out _ _ hHeld (fun hH1 => ?_)
    clear hK K
    (try simp only [Act.put, List.setIfInBounds_toArray, List.set_cons_zero, List.set_cons_succ])
    refine wpAnyH_ready (rs := [5, 7]) (by kernel_rfl) (by simp) ?_
    refine AllReadyH.cons (o := _) rfl (fun K hK => ?_) ?_
    · go_simp
      refine hK.out _ _ hH1 (fun hH2 => ?_)
      clear hK K
      (try simp only [Act.put, List.setIfInBounds_toArray, List.set_cons_zero, List.set_cons_succ])
      refine wpAnyH_ready (rs := [6, 7]) (by kernel_rfl) (by simp) ?_
      refine AllReadyH.cons (o := _) rfl (fun K hK => ?_) ?_
      · go_simp
        with_reducible refine (NA.out _ hH2.2).mono ?_
        rintro r wc3 ⟨⟨_, rfl, s3, a3, n3, c3, e3, s4, a4, n4, c4, e4, s5, a5, n5, c5, e5, s6, a6, n6, c6, e6, rfl, d3_6, d4_7, d5_8, d6_9⟩, gg5⟩
        refine hK.out _ _ ⟨gg5.keep hH2.1, hH2.2.trans gg5⟩ (fun hH4 => ?_)
        clear hK K
        (try simp only [Act.put, List.setIfInBounds_toArray, List.set_cons_zero, List.set_cons_succ])
        refine wpAnyH_ready (rs := [7]) (by kernel_rfl) (by simp) ?_
        refine AllReadyH.cons (o := _) rfl (fun K hK => ?_) AllReadyH.nil
        go_simp
        refine hK.out _ _ ⟨((Gr.refl wc3).alloc (.cells #[.bool false, .slice none 0 0, .int .i64 0, .bool false, .slice none 0 0, .int .i64 0, .bool false, .slice none 0 0, .int .i64 0, .bool false, .slice none 0 0, .int .i64 0] 106)).keep hH4.1, hH4.2.trans ((Gr.refl wc3).alloc (.cells #[.bool false, .slice none 0 0, .int .i64 0, .bool false, .slice none 0 0, .int .i64 0, .bool false, .slice none 0 0, .int .i64 0, .bool false, .slice none 0 0, .int .i64 0] 106))⟩ (fun hH11 => ?_)
        clear hK K
        (try simp only [Act.put, List.setIfInBounds_toArray, List.set_cons_zero, List.set_cons_succ])
        have bN_13 := new_at wc3 (.cells #[.bool false, .slice none 0 0, .int .i64 0, .bool false, .slice none 0 0, .int .i64 0, .bool false, .slice none 0 0, .int .i64 0, .bool false, .slice none 0 0, .int .i64 0] 106)
        have gg12 := (Gr.refl wc3).alloc (.cells #[.bool false, .slice none 0 0, .int .i64 0, .bool false, .slice none 0 0, .int .i64 0, .bool false, .slice none 0 0, .int .i64 0, .bool false, .slice none 0 0, .int .i64 0] 106)
        have lbN14 := hH4.2.size
        have d3_15 := d3_6.gr gg12
        clear d3_6
        have d4_16 := d4_7.gr gg12
        clear d4_7
        have d5_17 := d5_8.gr gg12
        clear d5_8
        have d6_18 := d6_9.gr gg12
        clear d6_9
        generalize wc3.alloc (.cells #[.bool false, .slice none 0 0, .int .i64 0, .bool false, .slice none 0 0, .int .i64 0, .bool false, .slice none 0 0, .int .i64 0, .bool false, .slice none 0 0, .int .i64 0] 106) = wa10 at *
        refine wpAnyH_ready (rs := [8]) (by kernel_rfl) (by simp) ?_
        refine AllReadyH.cons (o := _) rfl (fun K hK => ?_) AllReadyH.nil
        obtain ⟨x0', x1', x2', x3', x4', x5', x6', x7', x8', x9', x10', x11', y0', y1', y2', y3', y4', y5', y6', y7', y8', y9', y10', y11'⟩ := out12 bN_13
        go_simp
        refine hK.out _ _ ⟨(gx12 _ _ _ _ _ _ _ _ _ _ _ _ _ _).keepc (Nat.ne_of_lt (Nat.lt_of_lt_of_le hbb lbN14)) hH11.1, (gx12 _ _ _ _ _ _ _ _ _ _ _ _ _ _).gr lbN14 hH11.2⟩ (fun hS19 => ?_)
        clear hK K x0' x1' x2' x3' x4' x5' x6' x7' x8' x9' x10' x11' y0' y1' y2' y3' y4' y5' y6' y7' y8' y9' y10' y11'
        (try simp only [Act.put, List.setIfInBounds_toArray, List.set_cons_zero, List.set_cons_succ])
        refine wpAnyH_done (by kernel_rfl) ?_ _
        exact ⟨_, _, _, _, _, _, _, _, _, _, _, _, _, _, _, _, _, _, _, _, _, _, _, _, _, _, _, _, rfl, putB12 bN_13 _ _ _ _ _ _ _ _ _ _ _ _, d3_15.gx (NoR.of bN_13 rfl) (gx12 _ _ _ _ _ _ _ _ _ _ _ _ _ _), d4_16.gx (NoR.of bN_13 rfl) (gx12 _ _ _ _ _ _ _ _ _ _ _ _ _ _), d5_17.gx (NoR.of bN_13 rfl) (gx12 _ _ _ _ _ _ _ _ _ _ _ _ _ _), d6_18.gx (NoR.of bN_13 rfl) (gx12 _ _ _ _ _ _ _ _ _ _ _ _ _ _), lbN14, hS19.2⟩
      refine AllReadyH.cons (o := _) rfl (fun K hK => ?_) AllReadyH.nil
      go_simp
      refine hK.out _ _ ⟨((Gr.refl wd).alloc (.cells #[.bool false, .slice none 0 0, .int .i64 0, .bool false, .slice none 0 0, .int .i64 0, .bool false, .slice none 0 0, .int .i64 0, .bool false, .slice none 0 0, .int .i64 0] 106)).keep hH2.1, hH2.2.trans ((Gr.refl wd).alloc (.cells #[.bool false, .slice none 0 0, .int .i64 0, .bool false, .slice none 0 0, .int .i64 0, .bool false, .slice none 0 0, .int .i64 0, .bool false, .slice none 0 0, .int .i64 0] 106))⟩ (fun hH21 => ?_)
      clear hK K
      (try simp only [Act.put, List.setIfInBounds_toArray, List.set_cons_zero, List.set_cons_succ])
      have bN_23 := new_at wd (.cells #[.bool false, .slice none 0 0, .int .i64 0, .bool false, .slice none 0 0, .int .i64 0, .bool false, .slice none 0 0, .int .i64 0, .bool false, .slice none 0 0, .int .i64 0] 106)
      have gg22 := (Gr.refl wd).alloc (.cells #[.bool false, .slice none 0 0, .int .i64 0, .bool false, .slice none 0 0, .int .i64 0, .bool false, .slice none 0 0, .int .i64 0, .bool false, .slice none 0 0, .int .i64 0] 106)
      have lbN24 := hH2.2.size
      generalize wd.alloc (.cells #[.bool false, .slice none 0 0, .int .i64 0, .bool false, .slice none 0 0, .int .i64 0, .bool false, .slice none 0 0, .int .i64 0, .bool false, .slice none 0 0, .int .i64 0] 106) = wa20 at *
      refine wpAnyH_ready (rs := [6]) (by kernel_rfl) (by simp) ?_
      refine AllReadyH.cons (o := _) rfl (fun K hK => ?_) AllReadyH.nil
      go_simp
      with_reducible refine (NA.out _ hH21.2).mono ?_
      rintro r wc25 ⟨⟨_, rfl, s3, a3, n3, c3, e3, s4, a4, n4, c4, e4, s5, a5, n5, c5, e5, s6, a6, n6, c6, e6, rfl, d3_28, d4_29, d5_30, d6_31⟩, gg27⟩
      refine hK.out _ _ ⟨gg27.keep hH21.1, hH21.2.trans gg27⟩ (fun hH26 => ?_)
      clear hK K
      (try simp only [Act.put, List.setIfInBounds_toArray, List.set_cons_zero, List.set_cons_succ])
      have bN_32 := gg27.keepH bN_23
      clear bN_23
      refine wpAnyH_ready (rs := [8]) (by kernel_rfl) (by simp) ?_
      refine AllReadyH.cons (o := _) rfl (fun K hK => ?_) AllReadyH.nil
      obtain ⟨x0', x1', x2', x3', x4', x5', x6', x7', x8', x9', x10', x11', y0', y1', y2', y3', y4', y5', y6', y7', y8', y9', y10', y11'⟩ := out12 bN_32
      go_simp
      refine hK.out _ _ ⟨(gx12 _ _ _ _ _ _ _ _ _ _ _ _ _ _).keepc (Nat.ne_of_lt (Nat.lt_of_lt_of_le hbb lbN24)) hH26.1, (gx12 _ _ _ _ _ _ _ _ _ _ _ _ _ _).gr lbN24 hH26.2⟩ (fun hS33 => ?_)
      clear hK K x0' x1' x2' x3' x4' x5' x6' x7' x8' x9' x10' x11' y0' y1' y2' y3' y4' y5' y6' y7' y8' y9' y10' y11'
      (try simp only [Act.put, List.setIfInBounds_toArray, List.set_cons_zero, List.set_cons_succ])
      refine wpAnyH_done (by kernel_rfl) ?_ _
      exact ⟨_, _, _, _, _, _, _, _, _, _, _, _, _, _, _, _, _, _, _, _, _, _, _, _, _, _, _, _, rfl, putB12 bN_32 _ _ _ _ _ _ _ _ _ _ _ _, d3_28.gx (NoR.of bN_32 rfl) (gx12 _ _ _ _ _ _ _ _ _ _ _ _ _ _), d4_29.gx (NoR.of bN_32 rfl) (gx12 _ _ _ _ _ _ _ _ _ _ _ _ _ _), d5_30.gx (NoR.of bN_32 rfl) (gx12 _ _ _ _ _ _ _ _ _ _ _ _ _ _), d6_31.gx (NoR.of bN_32 rfl) (gx12 _ _ _ _ _ _ _ _ _ _ _ _ _ _), lbN24, hS33.2⟩
    refine AllReadyH.cons (o := _) rfl (fun K hK => ?_) AllReadyH.nil
    go_simp
    refine hK.out _ _ ⟨((Gr.refl wd).alloc (.cells #[.bool false, .slice none 0 0, .int .i64 0, .bool false, .slice none 0 0, .int .i64 0, .bool false, .slice none 0 0, .int .i64 0, .bool false, .slice none 0 0, .int .i64 0] 106)).keep hH1.1, hH1.2.trans ((Gr.refl wd).alloc (.cells #[.bool false, .slice none 0 0, .int .i64 0, .bool false, .slice none 0 0, .int .i64 0, .bool false, .slice none 0 0, .int .i64 0, .bool false, .slice none 0 0, .int .i64 0] 106))⟩ (fun hH35 => ?_)
    clear hK K
    (try simp only [Act.put, List.setIfInBounds_toArray, List.set_cons_zero, List.set_cons_succ])
    have bN_37 := new_at wd (.cells #[.bool false, .slice none 0 0, .int .i64 0, .bool false, .slice none 0 0, .int .i64 0, .bool false, .slice none 0 0, .int .i64 0, .bool false, .slice none 0 0, .int .i64 0] 106)
    have gg36 := (Gr.refl wd).alloc (.cells #[.bool false, .slice none 0 0, .int .i64 0, .bool false, .slice none 0 0, .int .i64 0, .bool false, .slice none 0 0, .int .i64 0, .bool false, .slice none 0 0, .int .i64 0] 106)
    have lbN38 := hH1.2.size
    generalize wd.alloc (.cells #[.bool false, .slice none 0 0, .int .i64 0, .bool false, .slice none 0 0, .int .i64 0, .bool false, .slice none 0 0, .int .i64 0, .bool false, .slice none 0 0, .int .i64 0] 106) = wa34 at *
    refine wpAnyH_ready (rs := [5]) (by kernel_rfl) (by simp) ?_
    refine AllReadyH.cons (o := _) rfl (fun K hK => ?_) AllReadyH.nil
    go_simp
    refine hK.out _ _ hH35 (fun hH39 => ?_)
    clear hK K
    (try simp only [Act.put, List.setIfInBounds_toArray, List.set_cons_zero, List.set_cons_succ])
    refine wpAnyH_ready (rs := [6]) (by kernel_rfl) (by simp) ?_
    refine AllReadyH.cons (o := _) rfl (fun K hK => ?_) AllReadyH.nil
    go_simp
    with_reducible refine (NA.out _ hH39.2).mono ?_
    rintro r wc40 ⟨⟨_, rfl, s3, a3, n3, c3, e3, s4, a4, n4, c4, e4, s5, a5, n5, c5, e5, s6, a6, n6, c6, e6, rfl, d3_43, d4_44, d5_45, d6_46⟩, gg42⟩
    refine hK.out _ _ ⟨gg42.keep hH39.1, hH39.2.trans gg42⟩ (fun hH41 => ?_)
    clear hK K
    (try simp only [Act.put, List.setIfInBounds_toArray, List.set_cons_zero, List.set_cons_succ])
    have bN_47 := gg42.keepH bN_37
    clear bN_37
    refine wpAnyH_ready (rs := [8]) (by kernel_rfl) (by simp) ?_
    refine AllReadyH.cons (o := _) rfl (fun K hK => ?_) AllReadyH.nil
    obtain ⟨x0', x1', x2', x3', x4', x5', x6', x7', x8', x9', x10', x11', y0', y1', y2', y3', y4', y5', y6', y7', y8', y9', y10', y11'⟩ := out12 bN_47
    go_simp
    refine hK.out _ _ ⟨(gx12 _ _ _ _ _ _ _ _ _ _ _ _ _ _).keepc (Nat.ne_of_lt (Nat.lt_of_lt_of_le hbb lbN38)) hH41.1, (gx12 _ _ _ _ _ _ _ _ _ _ _ _ _ _).gr lbN38 hH41.2⟩ (fun hS48 => ?_)
    clear hK K x0' x1' x2' x3' x4' x5' x6' x7' x8' x9' x10' x11' y0' y1' y2' y3' y4' y5' y6' y7' y8' y9' y10' y11'
    (try simp only [Act.put, List.setIfInBounds_toArray, List.set_cons_zero, List.set_cons_succ])
    refine wpAnyH_done (by kernel_rfl) ?_ _
    exact ⟨_, _, _, _, _, _, _, _, _, _, _, _, _, _, _, _, _, _, _, _, _, _, _, _, _, _, _, _, rfl, putB12 bN_47 _ _ _ _ _ _ _ _ _ _ _ _, d3_43.gx (NoR.of bN_47 rfl) (gx12 _ _ _ _ _ _ _ _ _ _ _ _ _ _), d4_44.gx (NoR.of bN_47 rfl) (gx12 _ _ _ _ _ _ _ _ _ _ _ _ _ _), d5_45.gx (NoR.of bN_47 rfl) (gx12 _ _ _ _ _ _ _ _ _ _ _ _ _ _), d6_46.gx (NoR.of bN_47 rfl) (gx12 _ _ _ _ _ _ _ _ _ _ _ _ _ _), lbN38, hS48.2⟩
  refine AllReadyH.cons (o := _) rfl (fun K hK => ?_) ?_
  · go_simp
    refine hK.out _ _ hHeld (fun hH49 => ?_)
    clear hK K
    (try simp only [Act.put, List.setIfInBounds_toArray, List.set_cons_zero, List.set_cons_succ])
    refine wpAnyH_ready (rs := [2, 7]) (by kernel_rfl) (by simp) ?_
    refine AllReadyH.cons (o := _) rfl (fun K hK => ?_) ?_
    · go_simp
      with_reducible refine (PO.out _).mono ?_
      rintro r wz ⟨rfl, hwz⟩
      rw [hwz]
      clear hwz wz
      refine hK.out _ _ hH49 (fun hH50 => ?_)
      clear hK K
      (try simp only [Act.put, List.setIfInBounds_toArray, List.set_cons_zero, List.set_cons_succ])
      refine wpAnyH_ready (rs := [6, 7]) (by kernel_rfl) (by simp) ?_
      refine AllReadyH.cons (o := _) rfl (fun K hK => ?_) ?_
      · go_simp
        with_reducible refine (NA.out _ hH50.2).mono ?_
        rintro r wc51 ⟨⟨_, rfl, s3, a3, n3, c3, e3, s4, a4, n4, c4, e4, s5, a5, n5, c5, e5, s6, a6, n6, c6, e6, rfl, d3_54, d4_55, d5_56, d6_57⟩, gg53⟩
        refine hK.out _ _ ⟨gg53.keep hH50.1, hH50.2.trans gg53⟩ (fun hH52 => ?_)
        clear hK K
        (try simp only [Act.put, List.setIfInBounds_toArray, List.set_cons_zero, List.set_cons_succ])
        refine wpAnyH_ready (rs := [7]) (by kernel_rfl) (by simp) ?_
        refine AllReadyH.cons (o := _) rfl (fun K hK => ?_) AllReadyH.nil
        go_simp
        refine hK.out _ _ ⟨((Gr.refl wc51).alloc (.cells #[.bool false, .slice none 0 0, .int .i64 0, .bool false, .slice none 0 0, .int .i64 0, .bool false, .slice none 0 0, .int .i64 0, .bool false, .slice none 0 0, .int .i64 0] 106)).keep hH52.1, hH52.2.trans ((Gr.refl wc51).alloc (.cells #[.bool false, .slice none 0 0, .int .i64 0, .bool false, .slice none 0 0, .int .i64 0, .bool false, .slice none 0 0, .int .i64 0, .bool false, .slice none 0 0, .int .i64 0] 106))⟩ (fun hH59 => ?_)
        clear hK K
        (try simp only [Act.put, List.setIfInBounds_toArray, List.set_cons_zero, List.set_cons_succ])
        have bN_61 := new_at wc51 (.cells #[.bool false, .slice none 0 0, .int .i64 0, .bool false, .slice none 0 0, .int .i64 0, .bool false, .slice none 0 0, .int .i64 0, .bool false, .slice none 0 0, .int .i64 0] 106)
        have gg60 := (Gr.refl wc51).alloc (.cells #[.bool false, .slice none 0 0, .int .i64 0, .bool false, .slice none 0 0, .int .i64 0, .bool false, .slice none 0 0, .int .i64 0, .bool false, .slice none 0 0, .int .i64 0] 106)
        have lbN62 := hH52.2.size
        have d3_63 := d3_54.gr gg60
        clear d3_54
        have d4_64 := d4_55.gr gg60
        clear d4_55
        have d5_65 := d5_56.gr gg60
        clear d5_56
        have d6_66 := d6_57.gr gg60
        clear d6_57
        generalize wc51.alloc (.cells #[.bool false, .slice none 0 0, .int .i64 0, .bool false, .slice none 0 0, .int .i64 0, .bool false, .slice none 0 0, .int .i64 0, .bool false, .slice none 0 0, .int .i64 0] 106) = wa58 at *
        refine wpAnyH_ready (rs := [8]) (by kernel_rfl) (by simp) ?_
        refine AllReadyH.cons (o := _) rfl (fun K hK => ?_) AllReadyH.nil
        obtain ⟨x0', x1', x2', x3', x4', x5', x6', x7', x8', x9', x10', x11', y0', y1', y2', y3', y4', y5', y6', y7', y8', y9', y10', y11'⟩ := out12 bN_61
        go_simp
        refine hK.out _ _ ⟨(gx12 _ _ _ _ _ _ _ _ _ _ _ _ _ _).keepc (Nat.ne_of_lt (Nat.lt_of_lt_of_le hbb lbN62)) hH59.1, (gx12 _ _ _ _ _ _ _ _ _ _ _ _ _ _).gr lbN62 hH59.2⟩ (fun hS67 => ?_)
        clear hK K x0' x1' x2' x3' x4' x5' x6' x7' x8' x9' x10' x11' y0' y1' y2' y3' y4' y5' y6' y7' y8' y9' y10' y11'
        (try simp only [Act.put, List.setIfInBounds_toArray, List.set_cons_zero, List.set_cons_succ])
        refine wpAnyH_done (by kernel_rfl) ?_ _
        exact ⟨_, _, _, _, _, _, _, _, _, _, _, _, _, _, _, _, _, _, _, _, _, _, _, _, _, _, _, _, rfl, putB12 bN_61 _ _ _ _ _ _ _ _ _ _ _ _, d3_63.gx (NoR.of bN_61 rfl) (gx12 _ _ _ _ _ _ _ _ _ _ _ _ _ _), d4_64.gx (NoR.of bN_61 rfl) (gx12 _ _ _ _ _ _ _ _ _ _ _ _ _ _), d5_65.gx (NoR.of bN_61 rfl) (gx12 _ _ _ _ _ _ _ _ _ _ _ _ _ _), d6_66.gx (NoR.of bN_61 rfl) (gx12 _ _ _ _ _ _ _ _ _ _ _ _ _ _), lbN62, hS67.2⟩
      refine AllReadyH.cons (o := _) rfl (fun K hK => ?_) AllReadyH.nil
      go_simp
      refine hK.out _ _ ⟨((Gr.refl wd).alloc (.cells #[.bool false, .slice none 0 0, .int .i64 0, .bool false, .slice none 0 0, .int .i64 0, .bool false, .slice none 0 0, .int .i64 0, .bool false, .slice none 0 0, .int .i64 0] 106)).keep hH50.1, hH50.2.trans ((Gr.refl wd).alloc (.cells #[.bool false, .slice none 0 0, .int .i64 0, .bool false, .slice none 0 0, .int .i64 0, .bool false, .slice none 0 0, .int .i64 0, .bool false, .slice none 0 0, .int .i64 0] 106))⟩ (fun hH69 => ?_)
      clear hK K
      (try simp only [Act.put, List.setIfInBounds_toArray, List.set_cons_zero, List.set_cons_succ])
      have bN_71 := new_at wd (.cells #[.bool false, .slice none 0 0, .int .i64 0, .bool false, .slice none 0 0, .int .i64 0, .bool false, .slice none 0 0, .int .i64 0, .bool false, .slice none 0 0, .int .i64 0] 106)
      have gg70 := (Gr.refl wd).alloc (.cells #[.bool false, .slice none 0 0, .int .i64 0, .bool false, .slice none 0 0, .int .i64 0, .bool false, .slice none 0 0, .int .i64 0, .bool false, .slice none 0 0, .int .i64 0] 106)
      have lbN72 := hH50.2.size
      generalize wd.alloc (.cells #[.bool false, .slice none 0 0, .int .i64 0, .bool false, .slice none 0 0, .int .i64 0, .bool false, .slice none 0 0, .int .i64 0, .bool false, .slice none 0 0, .int .i64 0] 106) = wa68 at *
      refine wpAnyH_ready (rs := [6]) (by kernel_rfl) (by simp) ?_
      refine AllReadyH.cons (o := _) rfl (fun K hK => ?_) AllReadyH.nil
      go_simp
      with_reducible refine (NA.out _ hH69.2).mono ?_
      rintro r wc73 ⟨⟨_, rfl, s3, a3, n3, c3, e3, s4, a4, n4, c4, e4, s5, a5, n5, c5, e5, s6, a6, n6, c6, e6, rfl, d3_76, d4_77, d5_78, d6_79⟩, gg75⟩
      refine hK.out _ _ ⟨gg75.keep hH69.1, hH69.2.trans gg75⟩ (fun hH74 => ?_)
      clear hK K
      (try simp only [Act.put, List.setIfInBounds_toArray, List.set_cons_zero, List.set_cons_succ])
      have bN_80 := gg75.keepH bN_71
      clear bN_71
      refine wpAnyH_ready (rs := [8]) (by kernel_rfl) (by simp) ?_
      refine AllReadyH.cons (o := _) rfl (fun K hK => ?_) AllReadyH.nil
      obtain ⟨x0', x1', x2', x3', x4', x5', x6', x7', x8', x9', x10', x11', y0', y1', y2', y3', y4', y5', y6', y7', y8', y9', y10', y11'⟩ := out12 bN_80
      go_simp
      refine hK.out _ _ ⟨(gx12 _ _ _ _ _ _ _ _ _ _ _ _ _ _).keepc (Nat.ne_of_lt (Nat.lt_of_lt_of_le hbb lbN72)) hH74.1, (gx12 _ _ _ _ _ _ _ _ _ _ _ _ _ _).gr lbN72 hH74.2⟩ (fun hS81 => ?_)
      clear hK K x0' x1' x2' x3' x4' x5' x6' x7' x8' x9' x10' x11' y0' y1' y2' y3' y4' y5' y6' y7' y8' y9' y10' y11'
      (try simp only [Act.put, List.setIfInBounds_toArray, List.set_cons_zero, List.set_cons_succ])
      refine wpAnyH_done (by kernel_rfl) ?_ _
      exact ⟨_, _, _, _, _, _, _, _, _, _, _, _, _, _, _, _, _, _, _, _, _, _, _, _, _, _, _, _, rfl, putB12 bN_80 _ _ _ _ _ _ _ _ _ _ _ _, d3_76.gx (NoR.of bN_80 rfl) (gx12 _ _ _ _ _ _ _ _ _ _ _ _ _ _), d4_77.gx (NoR.of bN_80 rfl) (gx12 _ _ _ _ _ _ _ _ _ _ _ _ _ _), d5_78.gx (NoR.of bN_80 rfl) (gx12 _ _ _ _ _ _ _ _ _ _ _ _ _ _), d6_79.gx (NoR.of bN_80 rfl) (gx12 _ _ _ _ _ _ _ _ _ _ _ _ _ _), lbN72, hS81.2⟩
    refine AllReadyH.cons (o := _) rfl (fun K hK => ?_) AllReadyH.nil
    go_simp
    refine hK.out _ _ ⟨((Gr.refl wd).alloc (.cells #[.bool false, .slice none 0 0, .int .i64 0, .bool false, .slice none 0 0, .int .i64 0, .bool false, .slice none 0 0, .int .i64 0, .bool false, .slice none 0 0, .int .i64 0] 106)).keep hH49.1, hH49.2.trans ((Gr.refl wd).alloc (.cells #[.bool false, .slice none 0 0, .int .i64 0, .bool false, .slice none 0 0, .int .i64 0, .bool false, .slice none 0 0, .int .i64 0, .bool false, .slice none 0 0, .int .i64 0] 106))⟩ (fun hH83 => ?_)
    clear hK K
    (try simp only [Act.put, List.setIfInBounds_toArray, List.set_cons_zero, List.set_cons_succ])
    have bN_85 := new_at wd (.cells #[.bool false, .slice none 0 0, .int .i64 0, .bool false, .slice none 0 0, .int .i64 0, .bool false, .slice none 0 0, .int .i64 0, .bool false, .slice none 0 0, .int .i64 0] 106)
    have gg84 := (Gr.refl wd).alloc (.cells #[.bool false, .slice none 0 0, .int .i64 0, .bool false, .slice none 0 0, .int .i64 0, .bool false, .slice none 0 0, .int .i64 0, .bool false, .slice none 0 0, .int .i64 0] 106)
    have lbN86 := hH49.2.size
    generalize wd.alloc (.cells #[.bool false, .slice none 0 0, .int .i64 0, .bool false, .slice none 0 0, .int .i64 0, .bool false, .slice none 0 0, .int .i64 0, .bool false, .slice none 0 0, .int .i64 0] 106) = wa82 at *
    refine wpAnyH_ready (rs := [2]) (by kernel_rfl) (by simp) ?_
    refine AllReadyH.cons (o := _) rfl (fun K hK => ?_) AllReadyH.nil
    go_simp
    with_reducible refine (PO.out _).mono ?_
    rintro r wz ⟨rfl, hwz⟩
    rw [hwz]
    clear hwz wz
    refine hK.out _ _ hH83 (fun hH87 => ?_)
    clear hK K
    (try simp only [Act.put, List.setIfInBounds_toArray, List.set_cons_zero, List.set_cons_succ])
    refine wpAnyH_ready (rs := [6]) (by kernel_rfl) (by simp) ?_
    refine AllReadyH.cons (o := _) rfl (fun K hK => ?_) AllReadyH.nil
    go_simp
    with_reducible refine (NA.out _ hH87.2).mono ?_
    rintro r wc88 ⟨⟨_, rfl, s3, a3, n3, c3, e3, s4, a4, n4, c4, e4, s5, a5, n5, c5, e5, s6, a6, n6, c6, e6, rfl, d3_91, d4_92, d5_93, d6_94⟩, gg90⟩
    refine hK.out _ _ ⟨gg90.keep hH87.1, hH87.2.trans gg90⟩ (fun hH89 => ?_)
    clear hK K
    (try simp only [Act.put, List.setIfInBounds_toArray, List.set_cons_zero, List.set_cons_succ])
    have bN_95 := gg90.keepH bN_85
    clear bN_85
    refine wpAnyH_ready (rs := [8]) (by kernel_rfl) (by simp) ?_
    refine AllReadyH.cons (o := _) rfl (fun K hK => ?_) AllReadyH.nil
    obtain ⟨x0', x1', x2', x3', x4', x5', x6', x7', x8', x9', x10', x11', y0', y1', y2', y3', y4', y5', y6', y7', y8', y9', y10', y11'⟩ := out12 bN_95
    go_simp
    refine hK.out _ _ ⟨(gx12 _ _ _ _ _ _ _ _ _ _ _ _ _ _).keepc (Nat.ne_of_lt (Nat.lt_of_lt_of_le hbb lbN86)) hH89.1, (gx12 _ _ _ _ _ _ _ _ _ _ _ _ _ _).gr lbN86 hH89.2⟩ (fun hS96 => ?_)
    clear hK K x0' x1' x2' x3' x4' x5' x6' x7' x8' x9' x10' x11' y0' y1' y2' y3' y4' y5' y6' y7' y8' y9' y10' y11'
    (try simp only [Act.put, List.setIfInBounds_toArray, List.set_cons_zero, List.set_cons_succ])
    refine wpAnyH_done (by kernel_rfl) ?_ _
    exact ⟨_, _, _, _, _, _, _, _, _, _, _, _, _, _, _, _, _, _, _, _, _, _, _, _, _, _, _, _, rfl, putB12 bN_95 _ _ _ _ _ _ _ _ _ _ _ _, d3_91.gx (NoR.of bN_95 rfl) (gx12 _ _ _ _ _ _ _ _ _ _ _ _ _ _), d4_92.gx (NoR.of bN_95 rfl) (gx12 _ _ _ _ _ _ _ _ _ _ _ _ _ _), d5_93.gx (NoR.of bN_95 rfl) (gx12 _ _ _ _ _ _ _ _ _ _ _ _ _ _), d6_94.gx (NoR.of bN_95 rfl) (gx12 _ _ _ _ _ _ _ _ _ _ _ _ _ _), lbN86, hS96.2⟩
  refine AllReadyH.cons (o := _) rfl (fun K hK => ?_) AllReadyH.nil
  go_simp
  refine hK.out _ _ ⟨((Gr.refl wd).alloc (.cells #[.bool false, .slice none 0 0, .int .i64 0, .bool false, .slice none 0 0, .int .i64 0, .bool false, .slice none 0 0, .int .i64 0, .bool false, .slice none 0 0, .int .i64 0] 106)).keep hHeld.1, hHeld.2.trans ((Gr.refl wd).alloc (.cells #[.bool false, .slice none 0 0, .int .i64 0, .bool false, .slice none 0 0, .int .i64 0, .bool false, .slice none 0 0, .int .i64 0, .bool false, .slice none 0 0, .int .i64 0] 106))⟩ (fun hH98 => ?_)
  clear hK K
  (try simp only [Act.put, List.setIfInBounds_toArray, List.set_cons_zero, List.set_cons_succ])
  have bN_100 := new_at wd (.cells #[.bool false, .slice none 0 0, .int .i64 0, .bool false, .slice none 0 0, .int .i64 0, .bool false, .slice none 0 0, .int .i64 0, .bool false, .slice none 0 0, .int .i64 0] 106)
  have gg99 := (Gr.refl wd).alloc (.cells #[.bool false, .slice none 0 0, .int .i64 0, .bool false, .slice none 0 0, .int .i64 0, .bool false, .slice none 0 0, .int .i64 0, .bool false, .slice none 0 0, .int .i64 0] 106)
  have lbN101 := hHeld.2.size
  generalize wd.alloc (.cells #[.bool false, .slice none 0 0, .int .i64 0, .bool false, .slice none 0 0, .int .i64 0, .bool false, .slice none 0 0, .int .i64 0, .bool false, .slice none 0 0, .int .i64 0] 106) = wa97 at *
  refine wpAnyH_ready (rs := [2, 5]) (by kernel_rfl) (by simp) ?_
  refine AllReadyH.cons (o := _) rfl (fun K hK => ?_) ?_
  · go_simp
    with_reducible refine (PO.out _).mono ?_
    rintro r wz ⟨rfl, hwz⟩
    rw [hwz]
    clear hwz wz
    refine hK.out _ _ hH98 (fun hH102 => ?_)
    clear hK K
    (try simp only [Act.put, List.setIfInBounds_toArray, List.set_cons_zero, List.set_cons_succ])
    refine wpAnyH_ready (rs := [5]) (by kernel_rfl) (by simp) ?_
    refine AllReadyH.cons (o := _) rfl (fun K hK => ?_) AllReadyH.nil
    go_simp
    refine hK.out _ _ hH102 (fun hH103 => ?_)
    clear hK K
    (try simp only [Act.put, List.setIfInBounds_toArray, List.set_cons_zero, List.set_cons_succ])
    refine wpAnyH_ready (rs := [6]) (by kernel_rfl) (by simp) ?_
    refine AllReadyH.cons (o := _) rfl (fun K hK => ?_) AllReadyH.nil
    go_simp
    with_reducible refine (NA.out _ hH103.2).mono ?_
    rintro r wc104 ⟨⟨_, rfl, s3, a3, n3, c3, e3, s4, a4, n4, c4, e4, s5, a5, n5, c5, e5, s6, a6, n6, c6, e6, rfl, d3_107, d4_108, d5_109, d6_110⟩, gg106⟩
    refine hK.out _ _ ⟨gg106.keep hH103.1, hH103.2.trans gg106⟩ (fun hH105 => ?_)
    clear hK K
    (try simp only [Act.put, List.setIfInBounds_toArray, List.set_cons_zero, List.set_cons_succ])
    have bN_111 := gg106.keepH bN_100
    clear bN_100
    refine wpAnyH_ready (rs := [8]) (by kernel_rfl) (by simp) ?_
    refine AllReadyH.cons (o := _) rfl (fun K hK => ?_) AllReadyH.nil
    obtain ⟨x0', x1', x2', x3', x4', x5', x6', x7', x8', x9', x10', x11', y0', y1', y2', y3', y4', y5', y6', y7', y8', y9', y10', y11'⟩ := out12 bN_111
    go_simp
    refine hK.out _ _ ⟨(gx12 _ _ _ _ _ _ _ _ _ _ _ _ _ _).keepc (Nat.ne_of_lt (Nat.lt_of_lt_of_le hbb lbN101)) hH105.1, (gx12 _ _ _ _ _ _ _ _ _ _ _ _ _ _).gr lbN101 hH105.2⟩ (fun hS112 => ?_)
    clear hK K x0' x1' x2' x3' x4' x5' x6' x7' x8' x9' x10' x11' y0' y1' y2' y3' y4' y5' y6' y7' y8' y9' y10' y11'
    (try simp only [Act.put, List.setIfInBounds_toArray, List.set_cons_zero, List.set_cons_succ])
    refine wpAnyH_done (by kernel_rfl) ?_ _
    exact ⟨_, _, _, _, _, _, _, _, _, _, _, _, _, _, _, _, _, _, _, _, _, _, _, _, _, _, _, _, rfl, putB12 bN_111 _ _ _ _ _ _ _ _ _ _ _ _, d3_107.gx (NoR.of bN_111 rfl) (gx12 _ _ _ _ _ _ _ _ _ _ _ _ _ _), d4_108.gx (NoR.of bN_111 rfl) (gx12 _ _ _ _ _ _ _ _ _ _ _ _ _ _), d5_109.gx (NoR.of bN_111 rfl) (gx12 _ _ _ _ _ _ _ _ _ _ _ _ _ _), d6_110.gx (NoR.of bN_111 rfl) (gx12 _ _ _ _ _ _ _ _ _ _ _ _ _ _), lbN101, hS112.2⟩
  refine AllReadyH.cons (o := _) rfl (fun K hK => ?_) AllReadyH.nil
  go_simp
  refine hK.out _ _ hH98 (fun hH113 => ?_)
  clear hK K
  (try simp only [Act.put, List.setIfInBounds_toArray, List.set_cons_zero, List.set_cons_succ])
  refine wpAnyH_ready (rs := [2]) (by kernel_rfl) (by simp) ?_
  refine AllReadyH.cons (o := _) rfl (fun K hK => ?_) AllReadyH.nil
  go_simp
  with_reducible refine (PO.out _).mono ?_
  rintro r wz ⟨rfl, hwz⟩
  rw [hwz]
  clear hwz wz
  refine hK.out _ _ hH113 (fun hH114 => ?_)
  clear hK K
  (try simp only [Act.put, List.setIfInBounds_toArray, List.set_cons_zero, List.set_cons_succ])
  refine wpAnyH_ready (rs := [6]) (by kernel_rfl) (by simp) ?_
  refine AllReadyH.cons (o := _) rfl (fun K hK => ?_) AllReadyH.nil
  go_simp
  with_reducible refine (NA.out _ hH114.2).mono ?_
  rintro r wc115 ⟨⟨_, rfl, s3, a3, n3, c3, e3, s4, a4, n4, c4, e4, s5, a5, n5, c5, e5, s6, a6, n6, c6, e6, rfl, d3_118, d4_119, d5_120, d6_121⟩, gg117⟩
  refine hK.out _ _ ⟨gg117.keep hH114.1, hH114.2.trans gg117⟩ (fun hH116 => ?_)
  clear hK K
  (try simp only [Act.put, List.setIfInBounds_toArray, List.set_cons_zero, List.set_cons_succ])
  have bN_122 := gg117.keepH bN_100
  clear bN_100
  refine wpAnyH_ready (rs := [8]) (by kernel_rfl) (by simp) ?_
  refine AllReadyH.cons (o := _) rfl (fun K hK => ?_) AllReadyH.nil
  obtain ⟨x0', x1', x2', x3', x4', x5', x6', x7', x8', x9', x10', x11', y0', y1', y2', y3', y4', y5', y6', y7', y8', y9', y10', y11'⟩ := out12 bN_122
  go_simp
  refine hK.out _ _ ⟨(gx12 _ _ _ _ _ _ _ _ _ _ _ _ _ _).keepc (Nat.ne_of_lt (Nat.lt_of_lt_of_le hbb lbN101)) hH116.1, (gx12 _ _ _ _ _ _ _ _ _ _ _ _ _ _).gr lbN101 hH116.2⟩ (fun hS123 => ?_)
  clear hK K x0' x1' x2' x3' x4' x5' x6' x7' x8' x9' x10' x11' y0' y1' y2' y3' y4' y5' y6' y7' y8' y9' y10' y11'
  (try simp only [Act.put, List.setIfInBounds_toArray, List.set_cons_zero, List.set_cons_succ])
  refine wpAnyH_done (by kernel_rfl) ?_ _
  exact ⟨_, _, _, _, _, _, _, _, _, _, _, _, _, _, _, _, _, _, _, _, _, _, _, _, _, _, _, _, rfl, putB12 bN_122 _ _ _ _ _ _ _ _ _ _ _ _, d3_118.gx (NoR.of bN_122 rfl) (gx12 _ _ _ _ _ _ _ _ _ _ _ _ _ _), d4_119.gx (NoR.of bN_122 rfl) (gx12 _ _ _ _ _ _ _ _ _ _ _ _ _ _), d5_120.gx (NoR.of bN_122 rfl) (gx12 _ _ _ _ _ _ _ _ _ _ _ _ _ _), d6_121.gx (NoR.of bN_122 rfl) (gx12 _ _ _ _ _ _ _ _ _ _ _ _ _ _), lbN101, hS123.2⟩
end Go.Proofs.YthilajhciifhaaaGreatDoor
