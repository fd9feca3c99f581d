import Derived.Test.YthilajhciifhaaaGreatDoorM31
import Derived.Deep.RegionHeld3
namespace Go.Proofs.YthilajhciifhaaaGreatDoor
open Go.RowKit
set_option linter.unusedVariables false
set_option linter.unusedSimpArgs false
def R695 (t0 t1 t2 t3 t4 t6 t7 t10 t11 t12 t13 t14 t15 t16 t17 t18 t19 t20 t21 t22 t23 t24 t25 t26 t27 t28 t29 t30 t31 t32 t33 t34 t35 t36 t37 t38 t39 t40 t41 t42 t43 t44 : Value) (B bb bN : Nat) (b : Int) (s3 : Bool) (a3 : Option Addr) (n3 c3 : Nat) (e3 : Int) (s4 : Bool) (a4 : Option Addr) (n4 c4 : Nat) (e4 : Int) (s5 : Bool) (a5 : Option Addr) (n5 c5 : Nat) (e5 : Int) (s6 : Bool) (a6 : Option Addr) (n6 c6 : Nat) (e6 : Int) (V1 V2 V3 V4 : Int) (wq : World) : Exit → Act → World → Prop
  | .normal, a, w => ∃ u29 u30 u31 u32 u33 u34 u35 u36 u37 s7 a7 n7 c7 e7 s8 a8 n8 c8 e8 s9 a9 n9 c9 e9 s10 a10 n10 c10 e10, a = { tmps := #[t0, t1, t2, t3, t4, .pointer (some ⟨bb, 0, none⟩), t6, t7, .pointer (some ⟨B, 0, none⟩), .pointer (some ⟨bN, 0, none⟩), t10, t11, t12, t13, t14, t15, t16, t17, t18, t19, t20, t21, t22, t23, t24, t25, t26, t27, t28, u29, u30, u31, u32, u33, u34, u35, u36, u37, t38, t39, t40, t41, t42, t43, t44], defers := [] } ∧ w.heap[bN]? = some (.cells #[.bool s7, .slice a7 n7 c7, .int .i64 e7, .bool s8, .slice a8 n8 c8, .int .i64 e8, .bool s9, .slice a9 n9 c9, .int .i64 e9, .bool s10, .slice a10 n10 c10, .int .i64 e10] 106) ∧ DyV w s7 a7 n7 c7 e7 V1 ∧ DyV w s8 a8 n8 c8 e8 V2 ∧ DyV w s9 a9 n9 c9 e9 V3 ∧ DyV w s10 a10 n10 c10 e10 V4 ∧ Gx bN wq w
  | _, _, _ => False
set_option maxRecDepth 100000 in
set_option maxHeartbeats 4000000 in
theorem reg695 (t0 t1 t2 t3 t4 t6 t7 t10 t11 t12 t13 t14 t15 t16 t17 t18 t19 t20 t21 t22 t23 t24 t25 t26 t27 t28 t29 t30 t31 t32 t33 t34 t35 t36 t37 t38 t39 t40 t41 t42 t43 t44 : Value) (B bb bN : Nat) (b : Int) (s3 : Bool) (a3 : Option Addr) (n3 c3 : Nat) (e3 : Int) (s4 : Bool) (a4 : Option Addr) (n4 c4 : Nat) (e4 : Int) (s5 : Bool) (a5 : Option Addr) (n5 c5 : Nat) (e5 : Int) (s6 : Bool) (a6 : Option Addr) (n6 c6 : Nat) (e6 : Int) (V1 V2 V3 V4 : Int) (wq : World)
    (O1 : Hid (∀ w1, Gr wq w1 → Calls Tryz.prog 124 #[.pointer (some ⟨B, 0, none⟩), .agg #[.bool s3, .slice a3 n3 c3, .int .i64 e3, .bool s4, .slice a4 n4 c4, .int .i64 e4], .int .i64 b] w1 fun r w' => (∃ v, r = .returned v ∧ Gv w' v V1 V2) ∧ Gr w1 w'))
    (O2 : Hid (∀ w1, Gr wq w1 → Calls Tryz.prog 124 #[.pointer (some ⟨B, 0, none⟩), .agg #[.bool s5, .slice a5 n5 c5, .int .i64 e5, .bool s6, .slice a6 n6 c6, .int .i64 e6], .int .i64 b] w1 fun r w' => (∃ v, r = .returned v ∧ Gv w' v V3 V4) ∧ Gr w1 w'))
    (hne_bb : bb ≠ bN) (hbN : wq.heap[bN]? = some (.cells #[.bool s3, .slice a3 n3 c3, .int .i64 e3, .bool s4, .slice a4 n4 c4, .int .i64 e4, .bool s5, .slice a5 n5 c5, .int .i64 e5, .bool s6, .slice a6 n6 c6, .int .i64 e6] 106)) (hcs : (wq.cell? ⟨bb, 0, none⟩ = some (.int .i64 b))) :
    Code.wp Tryz.prog (Code.region 5 #[{ dst := some 29, op := Op.fieldAddr 106 (Operand.tmp 9) 0, type := 0, pos := "angle.go:54", after := #[], guard := none }, { dst := some 30, op := Op.load 51 (Operand.tmp 29), type := 51, pos := "angle.go:54", after := #[{ on := 0, ground := Ground.data }], guard := none }, { dst := some 31, op := Op.load 3 (Operand.tmp 5), type := 3, pos := "angle.go:54", after := #[], guard := none }, { dst := some 32, op := Op.call { callee := Callee.value (Operand.func 124), args := #[Operand.tmp 8, Operand.tmp 30, Operand.tmp 31], argTypes := #[110, 51, 3] }, type := 51, pos := "angle.go:54", after := #[{ on := 1, ground := Ground.data }, { on := 2, ground := Ground.data }], guard := none }, { dst := some 33, op := Op.fieldAddr 106 (Operand.tmp 9) 1, type := 0, pos := "angle.go:54", after := #[], guard := none }, { dst := some 34, op := Op.load 51 (Operand.tmp 33), type := 51, pos := "angle.go:54", after := #[{ on := 4, ground := Ground.data }], guard := none }, { dst := some 35, op := Op.load 3 (Operand.tmp 5), type := 3, pos := "angle.go:54", after := #[], guard := none }, { dst := some 36, op := Op.call { callee := Callee.value (Operand.func 124), args := #[Operand.tmp 8, Operand.tmp 34, Operand.tmp 35], argTypes := #[110, 51, 3] }, type := 51, pos := "angle.go:54", after := #[{ on := 5, ground := Ground.data }, { on := 6, ground := Ground.data }, { on := 3, ground := Ground.chain }], guard := none }, { dst := some 37, op := Op.build 106 #[(0, Operand.tmp 32), (1, Operand.tmp 36)], type := 106, pos := "angle.go:54", after := #[{ on := 3, ground := Ground.data }, { on := 7, ground := Ground.data }], guard := none }, { dst := none, op := Op.store 106 (Operand.tmp 9) (Operand.tmp 37), type := 0, pos := "angle.go:54", after := #[{ on := 8, ground := Ground.data }, { on := 7, ground := Ground.chain }, { on := 0, ground := Ground.phase }, { on := 1, ground := Ground.phase }, { on := 2, ground := Ground.phase }, { on := 3, ground := Ground.phase }, { on := 4, ground := Ground.phase }, { on := 5, ground := Ground.phase }, { on := 6, ground := Ground.phase }, { on := 7, ground := Ground.phase }, { on := 8, ground := Ground.phase }], guard := none }] true) (R695 t0 t1 t2 t3 t4 t6 t7 t10 t11 t12 t13 t14 t15 t16 t17 t18 t19 t20 t21 t22 t23 t24 t25 t26 t27 t28 t29 t30 t31 t32 t33 t34 t35 t36 t37 t38 t39 t40 t41 t42 t43 t44 B bb bN b s3 a3 n3 c3 e3 s4 a4 n4 c4 e4 s5 a5 n5 c5 e5 s6 a6 n6 c6 e6 V1 V2 V3 V4 wq) { tmps := #[t0, t1, t2, t3, t4, .pointer (some ⟨bb, 0, none⟩), t6, t7, .pointer (some ⟨B, 0, none⟩), .pointer (some ⟨bN, 0, none⟩), t10, t11, t12, t13, t14, t15, t16, t17, t18, t19, t20, t21, t22, t23, t24, t25, t26, t27, t28, t29, t30, t31, t32, t33, t34, t35, t36, t37, t38, t39, t40, t41, t42, t43, t44], defers := [] } wq := by
  have hS0 : (wq.drew.cell? ⟨bb, 0, none⟩ = some (.int .i64 b)) ∧ Gx bN wq wq.drew := ⟨hcs, Gx.of_gr (Gr.refl wq).drew⟩
  have hbN0 : wq.drew.heap[bN]? = some (.cells #[.bool s3, .slice a3 n3 c3, .int .i64 e3, .bool s4, .slice a4 n4 c4, .int .i64 e4, .bool s5, .slice a5 n5 c5, .int .i64 e5, .bool s6, .slice a6 n6 c6, .int .i64 e6] 106) := hbN
  have hg0 : Gr wq wq.drew := (Gr.refl wq).drew
  clear hcs
  refine wp_region_held_drew (S := fun w' => (w'.cell? ⟨bb, 0, none⟩ = some (.int .i64 b)) ∧ Gx bN wq w') (by kernel_rfl) hS0 (fun hHeld => ?_)
  clear hS0
  generalize wq.drew = wd at *
  refine wpAnyH_take (i := 0) (oi := _) (v := ?_) rfl (by kernel_rfl) (by kernel_rfl) (by kernel_rfl) (fun _ _ _ h => h) (Or.inl ⟨by rfl, ?_⟩) (by with_reducible assumption) ?_
  rotate_left
  · intro w hSw
    (try dsimp only at hSw)
    first | (go_simp; done) | (go_simp; with_reducible rfl)
  (try simp only [Act.put, List.setIfInBounds_toArray, List.set_cons_zero, List.set_cons_succ])
  refine wpAnyH_take (i := 2) (oi := _) (v := ?_) rfl (by kernel_rfl) (by kernel_rfl) (by kernel_rfl) (fun _ _ _ h => h) (Or.inl ⟨by rfl, ?_⟩) (by with_reducible assumption) ?_
  rotate_left
  · intro w hSw
    (try dsimp only at hSw)
    first | (go_simp; done) | (go_simp; with_reducible rfl)
  (try simp only [Act.put, List.setIfInBounds_toArray, List.set_cons_zero, List.set_cons_succ])
  refine wpAnyH_take (i := 4) (oi := _) (v := ?_) rfl (by kernel_rfl) (by kernel_rfl) (by kernel_rfl) (fun _ _ _ h => h) (Or.inl ⟨by rfl, ?_⟩) (by with_reducible assumption) ?_
  rotate_left
  · intro w hSw
    (try dsimp only at hSw)
    first | (go_simp; done) | (go_simp; with_reducible rfl)
  (try simp only [Act.put, List.setIfInBounds_toArray, List.set_cons_zero, List.set_cons_succ])
  refine wpAnyH_take (i := 6) (oi := _) (v := ?_) rfl (by kernel_rfl) (by kernel_rfl) (by kernel_rfl) (fun _ _ _ h => h) (Or.inl ⟨by rfl, ?_⟩) (by with_reducible assumption) ?_
  rotate_left
  · intro w hSw
    (try dsimp only at hSw)
    first | (go_simp; done) | (go_simp; with_reducible rfl)
  (try simp only [Act.put, List.setIfInBounds_toArray, List.set_cons_zero, List.set_cons_succ])
  refine wpAnyH_ready (rs := [1, 5]) (by kernel_rfl) (by simp) ?_
  refine AllReadyH.cons (o := _) rfl (fun K hK => ?_) ?_
  · obtain ⟨x0', x1', x2', x3', x4', x5', x6', x7', x8', x9', x10', x11', -⟩ := out12 hbN0
    go_simp
    refine hK.out _ _ hHeld (fun hH1 => ?_)
    clear hK K x0' x1' x2' x3' x4' x5' x6' x7' x8' x9' x10' x11'
    (try simp only [Act.put, List.setIfInBounds_toArray, List.set_cons_zero, List.set_cons_succ])
    refine wpAnyH_ready (rs := [3, 5]) (by kernel_rfl) (by simp) ?_
    refine AllReadyH.cons (o := _) rfl (fun K hK => ?_) ?_
    · go_simp
      with_reducible refine (O1.out _ hg0).mono ?_
      rintro r wc2 ⟨⟨_, rfl, s7, a7, n7, c7, e7, s8, a8, n8, c8, e8, rfl, d1_5, d2_6⟩, gg4⟩
      refine hK.out _ _ ⟨gg4.keep hH1.1, hH1.2.trans (Gx.of_gr gg4)⟩ (fun hH3 => ?_)
      clear hK K
      (try simp only [Act.put, List.setIfInBounds_toArray, List.set_cons_zero, List.set_cons_succ])
      have bN_7 := gg4.keepH hbN0
      clear hbN0
      have gq8 := hg0.trans gg4
      clear hg0
      refine wpAnyH_ready (rs := [5]) (by kernel_rfl) (by simp) ?_
      refine AllReadyH.cons (o := _) rfl (fun K hK => ?_) AllReadyH.nil
      obtain ⟨x0', x1', x2', x3', x4', x5', x6', x7', x8', x9', x10', x11', -⟩ := out12 bN_7
      go_simp
      refine hK.out _ _ hH3 (fun hH9 => ?_)
      clear hK K x0' x1' x2' x3' x4' x5' x6' x7' x8' x9' x10' x11'
      (try simp only [Act.put, List.setIfInBounds_toArray, List.set_cons_zero, List.set_cons_succ])
      refine wpAnyH_ready (rs := [7]) (by kernel_rfl) (by simp) ?_
      refine AllReadyH.cons (o := _) rfl (fun K hK => ?_) AllReadyH.nil
      go_simp
      with_reducible refine (O2.out _ gq8).mono ?_
      rintro r wc10 ⟨⟨_, rfl, s9, a9, n9, c9, e9, s10, a10, n10, c10, e10, rfl, d3_13, d4_14⟩, gg12⟩
      refine hK.out _ _ ⟨gg12.keep hH9.1, hH9.2.trans (Gx.of_gr gg12)⟩ (fun hH11 => ?_)
      clear hK K
      (try simp only [Act.put, List.setIfInBounds_toArray, List.set_cons_zero, List.set_cons_succ])
      have bN_15 := gg12.keepH bN_7
      clear bN_7
      have d1_16 := d1_5.gr gg12
      clear d1_5
      have d2_17 := d2_6.gr gg12
      clear d2_6
      have gq18 := gq8.trans gg12
      clear gq8
      refine wpAnyH_take (i := 8) (oi := _) (v := ?_) rfl (by kernel_rfl) (by kernel_rfl) (by kernel_rfl) (fun _ _ _ h => h) (Or.inl ⟨by rfl, ?_⟩) (by with_reducible assumption) ?_
      rotate_left
      · intro w hSw
        (try dsimp only at hSw)
        first | (go_simp; done) | (go_simp; with_reducible rfl)
      (try simp only [Act.put, List.setIfInBounds_toArray, List.set_cons_zero, List.set_cons_succ])
      refine wpAnyH_ready (rs := [9]) (by kernel_rfl) (by simp) ?_
      refine AllReadyH.cons (o := _) rfl (fun K hK => ?_) AllReadyH.nil
      obtain ⟨x0', x1', x2', x3', x4', x5', x6', x7', x8', x9', x10', x11', y0', y1', y2', y3', y4', y5', y6', y7', y8', y9', y10', y11'⟩ := out12 bN_15
      go_simp
      refine hK.out _ _ ⟨(gx12 _ _ _ _ _ _ _ _ _ _ _ _ _ _).keepc hne_bb hH11.1, hH11.2.trans (gx12 _ _ _ _ _ _ _ _ _ _ _ _ _ _)⟩ (fun hS19 => ?_)
      clear hK K x0' x1' x2' x3' x4' x5' x6' x7' x8' x9' x10' x11' y0' y1' y2' y3' y4' y5' y6' y7' y8' y9' y10' y11'
      (try simp only [Act.put, List.setIfInBounds_toArray, List.set_cons_zero, List.set_cons_succ])
      refine wpAnyH_done (by kernel_rfl) ?_ _
      exact ⟨_, _, _, _, _, _, _, _, _, _, _, _, _, _, _, _, _, _, _, _, _, _, _, _, _, _, _, _, _, rfl, putB12 bN_15 _ _ _ _ _ _ _ _ _ _ _ _, d1_16.gx (NoR.of bN_15 rfl) (gx12 _ _ _ _ _ _ _ _ _ _ _ _ _ _), d2_17.gx (NoR.of bN_15 rfl) (gx12 _ _ _ _ _ _ _ _ _ _ _ _ _ _), d3_13.gx (NoR.of bN_15 rfl) (gx12 _ _ _ _ _ _ _ _ _ _ _ _ _ _), d4_14.gx (NoR.of bN_15 rfl) (gx12 _ _ _ _ _ _ _ _ _ _ _ _ _ _), hS19.2⟩
    refine AllReadyH.cons (o := _) rfl (fun K hK => ?_) AllReadyH.nil
    obtain ⟨x0', x1', x2', x3', x4', x5', x6', x7', x8', x9', x10', x11', -⟩ := out12 hbN0
    go_simp
    refine hK.out _ _ hH1 (fun hH20 => ?_)
    clear hK K x0' x1' x2' x3' x4' x5' x6' x7' x8' x9' x10' x11'
    (try simp only [Act.put, List.setIfInBounds_toArray, List.set_cons_zero, List.set_cons_succ])
    refine wpAnyH_ready (rs := [3]) (by kernel_rfl) (by simp) ?_
    refine AllReadyH.cons (o := _) rfl (fun K hK => ?_) AllReadyH.nil
    go_simp
    with_reducible refine (O1.out _ hg0).mono ?_
    rintro r wc21 ⟨⟨_, rfl, s7, a7, n7, c7, e7, s8, a8, n8, c8, e8, rfl, d1_24, d2_25⟩, gg23⟩
    refine hK.out _ _ ⟨gg23.keep hH20.1, hH20.2.trans (Gx.of_gr gg23)⟩ (fun hH22 => ?_)
    clear hK K
    (try simp only [Act.put, List.setIfInBounds_toArray, List.set_cons_zero, List.set_cons_succ])
    have bN_26 := gg23.keepH hbN0
    clear hbN0
    have gq27 := hg0.trans gg23
    clear hg0
    refine wpAnyH_ready (rs := [7]) (by kernel_rfl) (by simp) ?_
    refine AllReadyH.cons (o := _) rfl (fun K hK => ?_) AllReadyH.nil
    go_simp
    with_reducible refine (O2.out _ gq27).mono ?_
    rintro r wc28 ⟨⟨_, rfl, s9, a9, n9, c9, e9, s10, a10, n10, c10, e10, rfl, d3_31, d4_32⟩, gg30⟩
    refine hK.out _ _ ⟨gg30.keep hH22.1, hH22.2.trans (Gx.of_gr gg30)⟩ (fun hH29 => ?_)
    clear hK K
    (try simp only [Act.put, List.setIfInBounds_toArray, List.set_cons_zero, List.set_cons_succ])
    have bN_33 := gg30.keepH bN_26
    clear bN_26
    have d1_34 := d1_24.gr gg30
    clear d1_24
    have d2_35 := d2_25.gr gg30
    clear d2_25
    have gq36 := gq27.trans gg30
    clear gq27
    refine wpAnyH_take (i := 8) (oi := _) (v := ?_) rfl (by kernel_rfl) (by kernel_rfl) (by kernel_rfl) (fun _ _ _ h => h) (Or.inl ⟨by rfl, ?_⟩) (by with_reducible assumption) ?_
    rotate_left
    · intro w hSw
      (try dsimp only at hSw)
      first | (go_simp; done) | (go_simp; with_reducible rfl)
    (try simp only [Act.put, List.setIfInBounds_toArray, List.set_cons_zero, List.set_cons_succ])
    refine wpAnyH_ready (rs := [9]) (by kernel_rfl) (by simp) ?_
    refine AllReadyH.cons (o := _) rfl (fun K hK => ?_) AllReadyH.nil
    obtain ⟨x0', x1', x2', x3', x4', x5', x6', x7', x8', x9', x10', x11', y0', y1', y2', y3', y4', y5', y6', y7', y8', y9', y10', y11'⟩ := out12 bN_33
    go_simp
    refine hK.out _ _ ⟨(gx12 _ _ _ _ _ _ _ _ _ _ _ _ _ _).keepc hne_bb hH29.1, hH29.2.trans (gx12 _ _ _ _ _ _ _ _ _ _ _ _ _ _)⟩ (fun hS37 => ?_)
    clear hK K x0' x1' x2' x3' x4' x5' x6' x7' x8' x9' x10' x11' y0' y1' y2' y3' y4' y5' y6' y7' y8' y9' y10' y11'
    (try simp only [Act.put, List.setIfInBounds_toArray, List.set_cons_zero, List.set_cons_succ])
    refine wpAnyH_done (by kernel_rfl) ?_ _
    exact ⟨_, _, _, _, _, _, _, _, _, _, _, _, _, _, _, _, _, _, _, _, _, _, _, _, _, _, _, _, _, rfl, putB12 bN_33 _ _ _ _ _ _ _ _ _ _ _ _, d1_34.gx (NoR.of bN_33 rfl) (gx12 _ _ _ _ _ _ _ _ _ _ _ _ _ _), d2_35.gx (NoR.of bN_33 rfl) (gx12 _ _ _ _ _ _ _ _ _ _ _ _ _ _), d3_31.gx (NoR.of bN_33 rfl) (gx12 _ _ _ _ _ _ _ _ _ _ _ _ _ _), d4_32.gx (NoR.of bN_33 rfl) (gx12 _ _ _ _ _ _ _ _ _ _ _ _ _ _), hS37.2⟩
  refine AllReadyH.cons (o := _) rfl (fun K hK => ?_) AllReadyH.nil
  obtain ⟨x0', x1', x2', x3', x4', x5', x6', x7', x8', x9', x10', x11', -⟩ := out12 hbN0
  go_simp
  refine hK.out _ _ hHeld (fun hH38 => ?_)
  clear hK K x0' x1' x2' x3' x4' x5' x6' x7' x8' x9' x10' x11'
  (try simp only [Act.put, List.setIfInBounds_toArray, List.set_cons_zero, List.set_cons_succ])
  refine wpAnyH_ready (rs := [1]) (by kernel_rfl) (by simp) ?_
  refine AllReadyH.cons (o := _) rfl (fun K hK => ?_) AllReadyH.nil
  obtain ⟨x0', x1', x2', x3', x4', x5', x6', x7', x8', x9', x10', x11', -⟩ := out12 hbN0
  go_simp
  refine hK.out _ _ hH38 (fun hH39 => ?_)
  clear hK K x0' x1' x2' x3' x4' x5' x6' x7' x8' x9' x10' x11'
  (try simp only [Act.put, List.setIfInBounds_toArray, List.set_cons_zero, List.set_cons_succ])
  refine wpAnyH_ready (rs := [3]) (by kernel_rfl) (by simp) ?_
  refine AllReadyH.cons (o := _) rfl (fun K hK => ?_) AllReadyH.nil
  go_simp
  with_reducible refine (O1.out _ hg0).mono ?_
  rintro r wc40 ⟨⟨_, rfl, s7, a7, n7, c7, e7, s8, a8, n8, c8, e8, rfl, d1_43, d2_44⟩, gg42⟩
  refine hK.out _ _ ⟨gg42.keep hH39.1, hH39.2.trans (Gx.of_gr gg42)⟩ (fun hH41 => ?_)
  clear hK K
  (try simp only [Act.put, List.setIfInBounds_toArray, List.set_cons_zero, List.set_cons_succ])
  have bN_45 := gg42.keepH hbN0
  clear hbN0
  have gq46 := hg0.trans gg42
  clear hg0
  refine wpAnyH_ready (rs := [7]) (by kernel_rfl) (by simp) ?_
  refine AllReadyH.cons (o := _) rfl (fun K hK => ?_) AllReadyH.nil
  go_simp
  with_reducible refine (O2.out _ gq46).mono ?_
  rintro r wc47 ⟨⟨_, rfl, s9, a9, n9, c9, e9, s10, a10, n10, c10, e10, rfl, d3_50, d4_51⟩, gg49⟩
  refine hK.out _ _ ⟨gg49.keep hH41.1, hH41.2.trans (Gx.of_gr gg49)⟩ (fun hH48 => ?_)
  clear hK K
  (try simp only [Act.put, List.setIfInBounds_toArray, List.set_cons_zero, List.set_cons_succ])
  have bN_52 := gg49.keepH bN_45
  clear bN_45
  have d1_53 := d1_43.gr gg49
  clear d1_43
  have d2_54 := d2_44.gr gg49
  clear d2_44
  have gq55 := gq46.trans gg49
  clear gq46
  refine wpAnyH_take (i := 8) (oi := _) (v := ?_) rfl (by kernel_rfl) (by kernel_rfl) (by kernel_rfl) (fun _ _ _ h => h) (Or.inl ⟨by rfl, ?_⟩) (by with_reducible assumption) ?_
  rotate_left
  · intro w hSw
    (try dsimp only at hSw)
    first | (go_simp; done) | (go_simp; with_reducible rfl)
  (try simp only [Act.put, List.setIfInBounds_toArray, List.set_cons_zero, List.set_cons_succ])
  refine wpAnyH_ready (rs := [9]) (by kernel_rfl) (by simp) ?_
  refine AllReadyH.cons (o := _) rfl (fun K hK => ?_) AllReadyH.nil
  obtain ⟨x0', x1', x2', x3', x4', x5', x6', x7', x8', x9', x10', x11', y0', y1', y2', y3', y4', y5', y6', y7', y8', y9', y10', y11'⟩ := out12 bN_52
  go_simp
  refine hK.out _ _ ⟨(gx12 _ _ _ _ _ _ _ _ _ _ _ _ _ _).keepc hne_bb hH48.1, hH48.2.trans (gx12 _ _ _ _ _ _ _ _ _ _ _ _ _ _)⟩ (fun hS56 => ?_)
  clear hK K x0' x1' x2' x3' x4' x5' x6' x7' x8' x9' x10' x11' y0' y1' y2' y3' y4' y5' y6' y7' y8' y9' y10' y11'
  (try simp only [Act.put, List.setIfInBounds_toArray, List.set_cons_zero, List.set_cons_succ])
  refine wpAnyH_done (by kernel_rfl) ?_ _
  exact ⟨_, _, _, _, _, _, _, _, _, _, _, _, _, _, _, _, _, _, _, _, _, _, _, _, _, _, _, _, _, rfl, putB12 bN_52 _ _ _ _ _ _ _ _ _ _ _ _, d1_53.gx (NoR.of bN_52 rfl) (gx12 _ _ _ _ _ _ _ _ _ _ _ _ _ _), d2_54.gx (NoR.of bN_52 rfl) (gx12 _ _ _ _ _ _ _ _ _ _ _ _ _ _), d3_50.gx (NoR.of bN_52 rfl) (gx12 _ _ _ _ _ _ _ _ _ _ _ _ _ _), d4_51.gx (NoR.of bN_52 rfl) (gx12 _ _ _ _ _ _ _ _ _ _ _ _ _ _), hS56.2⟩
end Go.Proofs.YthilajhciifhaaaGreatDoor
namespace Go.Proofs.YthilajhciifhaaaGreatDoor
open Go.RowKit
set_option linter.unusedVariables false
set_option linter.unusedSimpArgs false
theorem three_at (w : World) (o1 o2 o3 : Obj) (W0 : World) (h : W0 = ((w.alloc o1).alloc o2).alloc o3) : W0.heap[w.heap.size]? = some o1 ∧ W0.heap[w.heap.size + 1]? = some o2 ∧ W0.heap[w.heap.size + 2]? = some o3 ∧ Gr w W0 ∧ W0.heap.size = w.heap.size + 3 := by
  subst h
  refine ⟨?_, ?_, ?_, ((gr2 _ _).alloc _), by show (((w.heap.push o1).push o2).push o3).size = _; simp only [Array.size_push]⟩
  · exact ((Gr.refl _).alloc o3).keepH (((Gr.refl _).alloc o2).keepH (new_at w o1))
  · exact ((Gr.refl _).alloc o3).keepH (second_block w o1 o2)
  · have := new_at ((w.alloc o1).alloc o2) o3
    rwa [show ((w.alloc o1).alloc o2).heap.size = w.heap.size + 2 by show ((w.heap.push o1).push o2).size = _; simp only [Array.size_push]] at this
set_option maxRecDepth 10000 in
set_option maxHeartbeats 8000000 in
theorem cutBoxW (o b lo k : Nat) (st p L1 H1 L2 H2 : Int) (w : World) (hT : TabAt 1 Lib.deBruijn64tab w) (ho : o ≤ 14) (hb : b ≤ 2048) (hp : (st * ((2 ^ (14 - o) : Nat) : Int)) % 16384 = p)
    (X : Hid (∀ B w1, Gr w w1 → Rk w1 B → Calls Tryz.prog 125 #[.pointer (some ⟨B, 0, none⟩), .int .i64 p, .int .i64 ((b : Int) + 32)] w1 fun r w' => (∃ v, r = .returned v ∧ Bv w' v L1 H1 L2 H2) ∧ Gr w1 w'))
    (g1 : Gd lo k L1) (g2 : Gd lo k H1) (g3 : Gd lo k L2) (g4 : Gd lo k H2) (hlo : lo ≤ 100000) (hk : k < 200000)
    (q1 : cutI L1 b false * Un b - cutI H1 b false * Un b = 0) (q2 : cutI L2 b false * Un b - cutI H2 b false * Un b = 0) :
    Calls Tryz.prog 69 #[.int .i64 (o : Int), .int .i64 st, .int .i64 (b : Int)] w fun r w' => (∃ v, r = .returned (.tuple #[v, .int .i64 0]) ∧ Bv w' v (cutI L1 b false * Un b) (cutI H1 b true * Un b) (cutI L2 b false * Un b) (cutI H2 b true * Un b)) ∧ Gr w w' := by
  have TA : Hid _ := three_at w (.cells #[.int .i64 (b : Int)] 3) (.cells #[.bool false, .slice none 0 0, .int .i64 0, .bool false, .slice none 0 0, .int .i64 0, .bool false, .slice none 0 0, .int .i64 0, .bool false, .slice none 0 0, .int .i64 0] 106) (.cells #[.int .i64 0] 110) _ rfl
  have RO : Hid (∀ w1, Calls Tryz.prog 70 #[.int .i64 (o : Int)] w1 fun r w' => r = .returned (.bool true) ∧ w' = w1) := fun w1 => by
    have := rightOrder (o : Int) w1
    rwa [decide_eq_true (by omega)] at this
  have PO : Hid (∀ w1, Calls Tryz.prog 72 #[.int .i64 (o : Int), .int .i64 st] w1 fun r w' => r = .returned (.int .i64 p) ∧ w' = w1) := fun w1 => by
    have := placeOf o st w1 ho
    rwa [hp] at this
  have RK : Rk (((w.alloc (.cells #[.int .i64 (b : Int)] 3)).alloc (.cells #[.bool false, .slice none 0 0, .int .i64 0, .bool false, .slice none 0 0, .int .i64 0, .bool false, .slice none 0 0, .int .i64 0, .bool false, .slice none 0 0, .int .i64 0] 106)).alloc (.cells #[.int .i64 0] 110)) (w.heap.size + 2) := TA.out.2.2.1
  have cb : (((w.alloc (.cells #[.int .i64 (b : Int)] 3)).alloc (.cells #[.bool false, .slice none 0 0, .int .i64 0, .bool false, .slice none 0 0, .int .i64 0, .bool false, .slice none 0 0, .int .i64 0, .bool false, .slice none 0 0, .int .i64 0] 106)).alloc (.cells #[.int .i64 0] 110)).cell? ⟨w.heap.size, 0, none⟩ = some (.int .i64 (b : Int)) := by
    have := TA.out.1
    simp [World.cell?, this]
  have NA : Hid (∀ w1, Gr (((w.alloc (.cells #[.int .i64 (b : Int)] 3)).alloc (.cells #[.bool false, .slice none 0 0, .int .i64 0, .bool false, .slice none 0 0, .int .i64 0, .bool false, .slice none 0 0, .int .i64 0, .bool false, .slice none 0 0, .int .i64 0] 106)).alloc (.cells #[.int .i64 0] 110)) w1 → Calls Tryz.prog 71 #[.pointer (some ⟨w.heap.size + 2, 0, none⟩), .int .i64 p, .int .i64 (IntKind.i64.wrap ((b : Int) + 32)), .func (.func 121) #[] #[.pointer (some ⟨w.heap.size + 2, 0, none⟩), .pointer (some ⟨w.heap.size, 0, none⟩)]] w1 fun r w' => (∃ v, r = .returned v ∧ Bv w' v L1 H1 L2 H2) ∧ Gr w1 w') := fun w1 g => by
    rw [wrap_i64_small _ (by omega) (by omega)]
    refine narrow (w.heap.size + 2) w.heap.size p _ L1 H1 L2 H2 w1 (RK.gr g) (fun w2 h2 => X.out _ w2 (TA.out.2.2.2.1.trans (g.trans h2)) (RK.gr (g.trans h2))) (fun w2 s3 a3 n3 c3 e3 s4 a4 n4 c4 e4 h2 d3 d4 => ?_) (fun w2 s3 a3 n3 c3 e3 s4 a4 n4 c4 e4 h2 d3 d4 => ?_)
    · exact alike _ _ b lo k s3 a3 n3 c3 e3 s4 a4 n4 c4 e4 L1 H1 true w2 (RK.gr (g.trans h2)) d3 d4 ((g.trans h2).keep cb) (tab_gr hT (TA.out.2.2.2.1.trans (g.trans h2))) g1 g2 hlo hk (by omega) (decide_eq_true q1).symm
    · exact alike _ _ b lo k s3 a3 n3 c3 e3 s4 a4 n4 c4 e4 L2 H2 true w2 (RK.gr (g.trans h2)) d3 d4 ((g.trans h2).keep cb) (tab_gr hT (TA.out.2.2.2.1.trans (g.trans h2))) g3 g4 hlo hk (by omega) (decide_eq_true q2).symm
  have OU : Hid (∀ w1 v L H, Gr (((w.alloc (.cells #[.int .i64 (b : Int)] 3)).alloc (.cells #[.bool false, .slice none 0 0, .int .i64 0, .bool false, .slice none 0 0, .int .i64 0, .bool false, .slice none 0 0, .int .i64 0, .bool false, .slice none 0 0, .int .i64 0] 106)).alloc (.cells #[.int .i64 0] 110)) w1 → Gv w1 v L H → Gd lo k L → Gd lo k H → Calls Tryz.prog 124 #[.pointer (some ⟨w.heap.size + 2, 0, none⟩), v, .int .i64 (b : Int)] w1 fun r w' => (∃ v', r = .returned v' ∧ Gv w' v' (cutI L b false * Un b) (cutI H b true * Un b)) ∧ Gr w1 w') := fun w1 v L H g hv gL gH => outward _ v L H b lo k w1 (RK.gr g) hv (tab_gr hT (TA.out.2.2.2.1.trans g)) gL gH hlo hk (by omega)
  have rk0 := hide RK
  clear RK X hT q1 q2
  have hb' : Hid (b ≤ 2048) := hb
  have hb1 : ((b : Int) < 0) = False := by simp
  have hb2 : ((b : Int) > 2048) = False := by simp; omega
  have hbi : (2048 < (b : Int)) = False := by simp; omega
  clear hb1 hb2 hbi
  go_enter Tryz.func69, Tryz.ntmps69
  go_wp2_with (first | (go_at_call 70; (with_reducible refine (RO.out _).mono ?_); rintro r _ ⟨rfl, rfl⟩))
  refine Code.wp_mono ?_ (reg694 _ _ _ _ _ _ _ _ _ _ _ _ _ _ _ _ _ _ _ _ _ _ _ _ _ _ _ _ _ _ _ _ _ _ _ _ _ _ _ _ _ (w.heap.size + 2) w.heap.size (o : Int) st (b : Int) p L1 H1 L2 H2 _ (by omega) (by have := hb'.out; omega) PO NA (lt_of_heap TA.out.1) cb)
  intro ex ac W hR
  cases ex
  case normal =>
    obtain ⟨_, _, _, _, _, _, _, bN, s3, a3, n3, c3, e3, s4, a4, n4, c4, e4, s5, a5, n5, c5, e5, s6, a6, n6, c6, e6, rfl, hbN, d3, d4, d5, d6, lN, gW⟩ := hR
    have lN' := lN
    rw [TA.out.2.2.2.2] at lN'
    have cbW := gW.keep cb
    have rkW := rk0.out.gr gW
    have kaW := gW.keepH TA.out.2.1
    go_wp2
    refine Code.wp_mono ?_ (reg695 _ _ _ _ _ _ _ _ _ _ _ _ _ _ _ _ _ _ _ _ _ _ _ _ _ _ _ _ _ _ _ _ _ _ _ _ _ _ _ _ _ _ (w.heap.size + 2) w.heap.size bN (b : Int) s3 a3 n3 c3 e3 s4 a4 n4 c4 e4 s5 a5 n5 c5 e5 s6 a6 n6 c6 e6 (cutI L1 b false * Un b) (cutI H1 b true * Un b) (cutI L2 b false * Un b) (cutI H2 b true * Un b) W (fun w1 g => OU.out w1 _ _ _ (gW.trans g) ⟨_, _, _, _, _, _, _, _, _, _, rfl, d3.gr g, d4.gr g⟩ g1 g2) (fun w1 g => OU.out w1 _ _ _ (gW.trans g) ⟨_, _, _, _, _, _, _, _, _, _, rfl, d5.gr g, d6.gr g⟩ g3 g4) (by omega) hbN cbW)
    intro ex ac V hV
    cases ex
    case normal =>
      obtain ⟨_, _, _, _, _, _, _, _, _, s7, a7, n7, c7, e7, s8, a8, n8, c8, e8, s9, a9, n9, c9, e9, s10, a10, n10, c10, e10, rfl, hbV, e7', e8', e9', e10', gV⟩ := hV
      have rkV := gV.keepc (by omega) rkW.cell
      have kaV := gV.keepH (by omega) kaW
      have nr := NoR.of kaV rfl
      obtain ⟨x0, x1, x2, x3, x4, x5, x6, x7, x8, x9, x10, x11, -⟩ := out12 hbV
      obtain ⟨z0, z1, z2, z3, z4, z5, z6, z7, z8, z9, z10, z11, y0, y1, y2, y3, y4, y5, y6, y7, y8, y9, y10, y11⟩ := out12 kaV
      go_wp2
      refine bodyPost_ret (v := .tuple #[.agg #[.bool s7, .slice a7 n7 c7, .int .i64 e7, .bool s8, .slice a8 n8 c8, .int .i64 e8, .bool s9, .slice a9 n9 c9, .int .i64 e9, .bool s10, .slice a10 n10 c10, .int .i64 e10], .int .i64 0]) ?_ rfl ⟨⟨_, rfl, _, _, _, _, _, _, _, _, _, _, _, _, _, _, _, _, _, _, _, _, rfl, e7'.gx nr (gx12 _ _ _ _ _ _ _ _ _ _ _ _ _ _), e8'.gx nr (gx12 _ _ _ _ _ _ _ _ _ _ _ _ _ _), e9'.gx nr (gx12 _ _ _ _ _ _ _ _ _ _ _ _ _ _), e10'.gx nr (gx12 _ _ _ _ _ _ _ _ _ _ _ _ _ _)⟩, (gx12 _ _ _ _ _ _ _ _ _ _ _ _ _ _).gr (by omega) (gV.gr (by omega) (TA.out.2.2.2.1.trans gW))⟩
      simp [results, Tryz.results69, go_sem, z0, z1, z2, z3, z4, z5, z6, z7, z8, z9, z10, z11]
    all_goals exact hV.elim
  all_goals exact hR.elim
end Go.Proofs.YthilajhciifhaaaGreatDoor
namespace Go.Proofs.YthilajhciifhaaaGreatDoor
open Go.RowKit
set_option linter.unusedVariables false
set_option linter.unusedSimpArgs false
set_option maxRecDepth 10000 in
set_option maxHeartbeats 4000000 in
theorem cutBoxA (o st b : Int) (w : World) (h : ¬ (0 ≤ o ∧ o ≤ 14)) : Calls Tryz.prog 69 #[.int .i64 o, .int .i64 st, .int .i64 b] w fun r w' => r = .returned (.tuple #[.agg #[.bool false, .slice none 0 0, .int .i64 0, .bool false, .slice none 0 0, .int .i64 0, .bool false, .slice none 0 0, .int .i64 0, .bool false, .slice none 0 0, .int .i64 0], .int .i64 2]) ∧ Gr w w' := by
  have RO : Hid (∀ w1, Calls Tryz.prog 70 #[.int .i64 o] w1 fun r w' => r = .returned (.bool false) ∧ w' = w1) := fun w1 => by
    have := rightOrder o w1
    rwa [decide_eq_false h] at this
  clear h
  go_enter Tryz.func69, Tryz.ntmps69
  go_wp2_with (first | (go_at_call 70; (with_reducible refine (RO.out _).mono ?_); rintro r _ ⟨rfl, rfl⟩))
  refine bodyPost_ret (v := .tuple #[.agg #[.bool false, .slice none 0 0, .int .i64 0, .bool false, .slice none 0 0, .int .i64 0, .bool false, .slice none 0 0, .int .i64 0, .bool false, .slice none 0 0, .int .i64 0], .int .i64 2]) ?_ rfl ⟨rfl, gr2 _ _⟩
  simp [results, Tryz.results69, go_sem]
set_option maxRecDepth 10000 in
set_option maxHeartbeats 4000000 in
theorem cutBoxB (o st b : Int) (w : World) (h : 0 ≤ o ∧ o ≤ 14) (h1 : b < 0) : Calls Tryz.prog 69 #[.int .i64 o, .int .i64 st, .int .i64 b] w fun r w' => r = .returned (.tuple #[.agg #[.bool false, .slice none 0 0, .int .i64 0, .bool false, .slice none 0 0, .int .i64 0, .bool false, .slice none 0 0, .int .i64 0, .bool false, .slice none 0 0, .int .i64 0], .int .i64 2]) ∧ Gr w w' := by
  have RO : Hid (∀ w1, Calls Tryz.prog 70 #[.int .i64 o] w1 fun r w' => r = .returned (.bool true) ∧ w' = w1) := fun w1 => by
    have := rightOrder o w1
    rwa [decide_eq_true h] at this
  clear h
  go_enter Tryz.func69, Tryz.ntmps69
  go_wp2_with (first | (go_at_call 70; (with_reducible refine (RO.out _).mono ?_); rintro r _ ⟨rfl, rfl⟩))
  refine bodyPost_ret (v := .tuple #[.agg #[.bool false, .slice none 0 0, .int .i64 0, .bool false, .slice none 0 0, .int .i64 0, .bool false, .slice none 0 0, .int .i64 0, .bool false, .slice none 0 0, .int .i64 0], .int .i64 2]) ?_ rfl ⟨rfl, gr2 _ _⟩
  simp [results, Tryz.results69, go_sem]
set_option maxRecDepth 10000 in
set_option maxHeartbeats 4000000 in
theorem cutBoxC (o st b : Int) (w : World) (h : 0 ≤ o ∧ o ≤ 14) (h0 : ¬ b < 0) (h1 : 2048 < b) : Calls Tryz.prog 69 #[.int .i64 o, .int .i64 st, .int .i64 b] w fun r w' => r = .returned (.tuple #[.agg #[.bool false, .slice none 0 0, .int .i64 0, .bool false, .slice none 0 0, .int .i64 0, .bool false, .slice none 0 0, .int .i64 0, .bool false, .slice none 0 0, .int .i64 0], .int .i64 2]) ∧ Gr w w' := by
  have RO : Hid (∀ w1, Calls Tryz.prog 70 #[.int .i64 o] w1 fun r w' => r = .returned (.bool true) ∧ w' = w1) := fun w1 => by
    have := rightOrder o w1
    rwa [decide_eq_true h] at this
  clear h
  go_enter Tryz.func69, Tryz.ntmps69
  go_wp2_with (first | (go_at_call 70; (with_reducible refine (RO.out _).mono ?_); rintro r _ ⟨rfl, rfl⟩))
  refine bodyPost_ret (v := .tuple #[.agg #[.bool false, .slice none 0 0, .int .i64 0, .bool false, .slice none 0 0, .int .i64 0, .bool false, .slice none 0 0, .int .i64 0, .bool false, .slice none 0 0, .int .i64 0], .int .i64 2]) ?_ rfl ⟨rfl, gr2 _ _⟩
  simp [results, Tryz.results69, go_sem]
set_option maxRecDepth 10000 in
set_option maxHeartbeats 4000000 in
theorem angCos (o st b L1 H1 L2 H2 : Int) (w : World)
    (X : Hid (∀ w1, Gr w w1 → Calls Tryz.prog 69 #[.int .i64 o, .int .i64 st, .int .i64 b] w1 fun r w' => (∃ v, r = .returned (.tuple #[v, .int .i64 0]) ∧ Bv w' v L1 H1 L2 H2) ∧ Gr w1 w')) :
    Calls Tryz.prog 26 #[.int .i64 o, .int .i64 st, .int .i64 b] w fun r w' => (∃ v, r = .returned (.tuple #[v, .int .i64 0]) ∧ Gv w' v L1 H1) ∧ Gr w w' := by
  have g0 : Hid _ := (Gr.refl w).alloc (.cells #[.bool false, .slice none 0 0, .int .i64 0, .bool false, .slice none 0 0, .int .i64 0] 51)
  have kb0 : Hid _ := new_at w (.cells #[.bool false, .slice none 0 0, .int .i64 0, .bool false, .slice none 0 0, .int .i64 0] 51)
  go_enter Tryz.func26, Tryz.ntmps26
  go_wp2_with (first | (go_at_call 69; (with_reducible refine (X.out _ g0.out).mono ?_); rintro r w1 ⟨⟨_, rfl, s3, a3, n3, c3, e3, s4, a4, n4, c4, e4, s5, a5, n5, c5, e5, s6, a6, n6, c6, e6, rfl, d3, d4, d5, d6⟩, g1⟩; have g2 := (Gr.refl w1).alloc (.cells #[.bool s3, .slice a3 n3 c3, .int .i64 e3, .bool s4, .slice a4 n4 c4, .int .i64 e4, .bool s5, .slice a5 n5 c5, .int .i64 e5, .bool s6, .slice a6 n6 c6, .int .i64 e6] 106); have kb2 := g2.keepH (g1.keepH kb0.out); have nr := NoR.of kb2 rfl; obtain ⟨x0, x1, x2, x3, x4, x5, y0, y1, y2, y3, y4, y5⟩ := out6 kb2))
  refine bodyPost_ret (v := .tuple #[.agg #[.bool s3, .slice a3 n3 c3, .int .i64 e3, .bool s4, .slice a4 n4 c4, .int .i64 e4], .int .i64 0]) ?_ rfl ⟨⟨_, rfl, _, _, _, _, _, _, _, _, _, _, rfl, (d3.gr g2).gx nr (gx6 _ _ _ _ _ _ _ _), (d4.gr g2).gx nr (gx6 _ _ _ _ _ _ _ _)⟩, (gx6 _ _ _ _ _ _ _ _).gr (Nat.le_refl _) ((g0.out.trans g1).trans g2)⟩
  simp [results, Tryz.results26, go_sem, x0, x1, x2, x3, x4, x5]
set_option maxRecDepth 10000 in
set_option maxHeartbeats 4000000 in
theorem angCosE (o st b : Int) (w : World)
    (X : Hid (∀ w1, Gr w w1 → Calls Tryz.prog 69 #[.int .i64 o, .int .i64 st, .int .i64 b] w1 fun r w' => r = .returned (.tuple #[.agg #[.bool false, .slice none 0 0, .int .i64 0, .bool false, .slice none 0 0, .int .i64 0, .bool false, .slice none 0 0, .int .i64 0, .bool false, .slice none 0 0, .int .i64 0], .int .i64 2]) ∧ Gr w1 w')) :
    Calls Tryz.prog 26 #[.int .i64 o, .int .i64 st, .int .i64 b] w fun r w' => r = .returned (.tuple #[.agg #[.bool false, .slice none 0 0, .int .i64 0, .bool false, .slice none 0 0, .int .i64 0], .int .i64 2]) ∧ Gr w w' := by
  have g0 : Hid _ := (Gr.refl w).alloc (.cells #[.bool false, .slice none 0 0, .int .i64 0, .bool false, .slice none 0 0, .int .i64 0] 51)
  have kb0 : Hid _ := new_at w (.cells #[.bool false, .slice none 0 0, .int .i64 0, .bool false, .slice none 0 0, .int .i64 0] 51)
  go_enter Tryz.func26, Tryz.ntmps26
  go_wp2_with (first | (go_at_call 69; (with_reducible refine (X.out _ g0.out).mono ?_); rintro r w1 ⟨rfl, g1⟩; have g2 := (Gr.refl w1).alloc (.cells #[.bool false, .slice none 0 0, .int .i64 0, .bool false, .slice none 0 0, .int .i64 0, .bool false, .slice none 0 0, .int .i64 0, .bool false, .slice none 0 0, .int .i64 0] 106); have kb2 := g2.keepH (g1.keepH kb0.out); obtain ⟨x0, x1, x2, x3, x4, x5, y0, y1, y2, y3, y4, y5⟩ := out6 kb2))
  refine bodyPost_ret (v := .tuple #[.agg #[.bool false, .slice none 0 0, .int .i64 0, .bool false, .slice none 0 0, .int .i64 0], .int .i64 2]) ?_ rfl ⟨rfl, (gx6 _ _ _ _ _ _ _ _).gr (Nat.le_refl _) ((g0.out.trans g1).trans g2)⟩
  simp [results, Tryz.results26, go_sem, x0, x1, x2, x3, x4, x5]
set_option maxRecDepth 10000 in
set_option maxHeartbeats 4000000 in
theorem angSin (o st b L1 H1 L2 H2 : Int) (w : World)
    (X : Hid (∀ w1, Gr w w1 → Calls Tryz.prog 69 #[.int .i64 o, .int .i64 st, .int .i64 b] w1 fun r w' => (∃ v, r = .returned (.tuple #[v, .int .i64 0]) ∧ Bv w' v L1 H1 L2 H2) ∧ Gr w1 w')) :
    Calls Tryz.prog 27 #[.int .i64 o, .int .i64 st, .int .i64 b] w fun r w' => (∃ v, r = .returned (.tuple #[v, .int .i64 0]) ∧ Gv w' v L2 H2) ∧ Gr w w' := by
  have g0 : Hid _ := (Gr.refl w).alloc (.cells #[.bool false, .slice none 0 0, .int .i64 0, .bool false, .slice none 0 0, .int .i64 0] 51)
  have kb0 : Hid _ := new_at w (.cells #[.bool false, .slice none 0 0, .int .i64 0, .bool false, .slice none 0 0, .int .i64 0] 51)
  go_enter Tryz.func27, Tryz.ntmps27
  go_wp2_with (first | (go_at_call 69; (with_reducible refine (X.out _ g0.out).mono ?_); rintro r w1 ⟨⟨_, rfl, s3, a3, n3, c3, e3, s4, a4, n4, c4, e4, s5, a5, n5, c5, e5, s6, a6, n6, c6, e6, rfl, d3, d4, d5, d6⟩, g1⟩; have g2 := (Gr.refl w1).alloc (.cells #[.bool s3, .slice a3 n3 c3, .int .i64 e3, .bool s4, .slice a4 n4 c4, .int .i64 e4, .bool s5, .slice a5 n5 c5, .int .i64 e5, .bool s6, .slice a6 n6 c6, .int .i64 e6] 106); have kb2 := g2.keepH (g1.keepH kb0.out); have nr := NoR.of kb2 rfl; obtain ⟨x0, x1, x2, x3, x4, x5, y0, y1, y2, y3, y4, y5⟩ := out6 kb2))
  refine bodyPost_ret (v := .tuple #[.agg #[.bool s5, .slice a5 n5 c5, .int .i64 e5, .bool s6, .slice a6 n6 c6, .int .i64 e6], .int .i64 0]) ?_ rfl ⟨⟨_, rfl, _, _, _, _, _, _, _, _, _, _, rfl, (d5.gr g2).gx nr (gx6 _ _ _ _ _ _ _ _), (d6.gr g2).gx nr (gx6 _ _ _ _ _ _ _ _)⟩, (gx6 _ _ _ _ _ _ _ _).gr (Nat.le_refl _) ((g0.out.trans g1).trans g2)⟩
  simp [results, Tryz.results27, go_sem, x0, x1, x2, x3, x4, x5]
set_option maxRecDepth 10000 in
set_option maxHeartbeats 4000000 in
theorem angSinE (o st b : Int) (w : World)
    (X : Hid (∀ w1, Gr w w1 → Calls Tryz.prog 69 #[.int .i64 o, .int .i64 st, .int .i64 b] w1 fun r w' => r = .returned (.tuple #[.agg #[.bool false, .slice none 0 0, .int .i64 0, .bool false, .slice none 0 0, .int .i64 0, .bool false, .slice none 0 0, .int .i64 0, .bool false, .slice none 0 0, .int .i64 0], .int .i64 2]) ∧ Gr w1 w')) :
    Calls Tryz.prog 27 #[.int .i64 o, .int .i64 st, .int .i64 b] w fun r w' => r = .returned (.tuple #[.agg #[.bool false, .slice none 0 0, .int .i64 0, .bool false, .slice none 0 0, .int .i64 0], .int .i64 2]) ∧ Gr w w' := by
  have g0 : Hid _ := (Gr.refl w).alloc (.cells #[.bool false, .slice none 0 0, .int .i64 0, .bool false, .slice none 0 0, .int .i64 0] 51)
  have kb0 : Hid _ := new_at w (.cells #[.bool false, .slice none 0 0, .int .i64 0, .bool false, .slice none 0 0, .int .i64 0] 51)
  go_enter Tryz.func27, Tryz.ntmps27
  go_wp2_with (first | (go_at_call 69; (with_reducible refine (X.out _ g0.out).mono ?_); rintro r w1 ⟨rfl, g1⟩; have g2 := (Gr.refl w1).alloc (.cells #[.bool false, .slice none 0 0, .int .i64 0, .bool false, .slice none 0 0, .int .i64 0, .bool false, .slice none 0 0, .int .i64 0, .bool false, .slice none 0 0, .int .i64 0] 106); have kb2 := g2.keepH (g1.keepH kb0.out); obtain ⟨x0, x1, x2, x3, x4, x5, y0, y1, y2, y3, y4, y5⟩ := out6 kb2))
  refine bodyPost_ret (v := .tuple #[.agg #[.bool false, .slice none 0 0, .int .i64 0, .bool false, .slice none 0 0, .int .i64 0], .int .i64 2]) ?_ rfl ⟨rfl, (gx6 _ _ _ _ _ _ _ _).gr (Nat.le_refl _) ((g0.out.trans g1).trans g2)⟩
  simp [results, Tryz.results27, go_sem, x0, x1, x2, x3, x4, x5]
end Go.Proofs.YthilajhciifhaaaGreatDoor
