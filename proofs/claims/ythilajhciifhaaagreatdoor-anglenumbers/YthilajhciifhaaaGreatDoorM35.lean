import Derived.Test.YthilajhciifhaaaGreatDoorM34
import Derived.Deep.RegionHeld3
namespace Go.Proofs.YthilajhciifhaaaGreatDoor
open Go.RowKit
set_option linter.unusedVariables false
set_option linter.unusedSimpArgs false
theorem Nu.put {w : World} {s : Bool} {ad : Option Addr} {n cap : Nat} {e V : Int} {L : Nat} (h : Nu w s ad n cap e V L) {B2 : Nat} {p : Bool} {s0 : Option Addr} {l0 c0 : Nat} {i0 : Int} {T : TypeId} {fr : Nat × Nat} (hb : w.heap[B2]? = some (.cells #[.bool p, .slice s0 l0 c0, .int .i64 i0] T fr)) (v0 v1 v2 : Value) : Nu (((w.setCell ⟨B2, 0, none⟩ v0).setCell ⟨B2, 1, none⟩ v1).setCell ⟨B2, 2, none⟩ v2) s ad n cap e V L := by
  obtain ⟨x, lx, hx⟩ := h
  exact ⟨x, lx.set3 (lx.apart hb) _ _ _, hx⟩
def R188_1 (t0 t1 t2 t5 t6 t7 t8 t9 t10 t11 t12 t13 t14 t15 t16 t17 t18 t19 t20 t21 t22 t23 t24 t25 t26 t27 t28 t29 t30 t31 t32 t33 t34 t35 t36 t37 t38 t39 : Value) (bZ bW : Nat) (s1 : Bool) (a1 : Option Addr) (n1 c1 : Nat) (e1 : Int) (s2 : Bool) (a2 : Option Addr) (n2 c2 : Nat) (e2 : Int) (s3 : Bool) (a3 : Option Addr) (n3 c3 : Nat) (e3 : Int) (s4 : Bool) (a4 : Option Addr) (n4 c4 : Nat) (e4 : Int) (V1 V2 V3 : Int) (L : Nat) (wq : World) : Exit → Act → World → Prop
  | .normal, a, w => ∃ u9 u10 u11 u12 u13 u14 u15 u16 u17 u18 u19 bS s7 a7 n7 c7 e7, a = { tmps := #[t0, t1, t2, .pointer (some ⟨bZ, 0, none⟩), .pointer (some ⟨bW, 0, none⟩), t5, t6, .pointer (some ⟨bS, 0, none⟩), t8, u9, u10, u11, u12, u13, u14, u15, u16, u17, u18, u19, t20, t21, t22, t23, t24, t25, t26, t27, t28, t29, t30, t31, t32, t33, t34, t35, t36, t37, t38, t39], defers := [] } ∧ w.heap[bS]? = some (.cells #[.bool s7, .slice a7 n7 c7, .int .i64 e7] 84) ∧ Nu w s7 a7 n7 c7 e7 V3 (8 * L + 1) ∧ wq.heap.size ≤ bS ∧ Gr wq w
  | _, _, _ => False
set_option maxRecDepth 100000 in
set_option maxHeartbeats 8000000 in
theorem reg188_1 (t0 t1 t2 t5 t6 t7 t8 t9 t10 t11 t12 t13 t14 t15 t16 t17 t18 t19 t20 t21 t22 t23 t24 t25 t26 t27 t28 t29 t30 t31 t32 t33 t34 t35 t36 t37 t38 t39 : Value) (bZ bW : Nat) (s1 : Bool) (a1 : Option Addr) (n1 c1 : Nat) (e1 : Int) (s2 : Bool) (a2 : Option Addr) (n2 c2 : Nat) (e2 : Int) (s3 : Bool) (a3 : Option Addr) (n3 c3 : Nat) (e3 : Int) (s4 : Bool) (a4 : Option Addr) (n4 c4 : Nat) (e4 : Int) (V1 V2 V3 : Int) (L : Nat) (wq : World)
    (T1 : Hid (∀ w1, Gr wq w1 → Calls Tryz.prog 190 #[.agg #[.bool s1, .slice a1 n1 c1, .int .i64 e1], .agg #[.bool s3, .slice a3 n3 c3, .int .i64 e3]] w1 fun r w' => NuA w' r V1 (2 * L) ∧ Gr w1 w'))
    (T2 : Hid (∀ w1, Gr wq w1 → Calls Tryz.prog 190 #[.agg #[.bool s2, .slice a2 n2 c2, .int .i64 e2], .agg #[.bool s4, .slice a4 n4 c4, .int .i64 e4]] w1 fun r w' => NuA w' r V2 (2 * L) ∧ Gr w1 w'))
    (T3 : Hid (∀ w1 s5 a5 n5 c5 e5 s6 a6 n6 c6 e6, Gr wq w1 → Nu w1 s5 a5 n5 c5 e5 V1 (2 * L) → Nu w1 s6 a6 n6 c6 e6 V2 (2 * L) → Calls Tryz.prog 171 #[.agg #[.bool s5, .slice a5 n5 c5, .int .i64 e5], .agg #[.bool s6, .slice a6 n6 c6, .int .i64 e6]] w1 fun r w' => NuA w' r V3 (8 * L + 1) ∧ Gr w1 w'))
    (hbZ : bZ < wq.heap.size) (hbW : bW < wq.heap.size) (hcs : (wq.cell? ⟨bZ, 0, none⟩ = some (.bool s1) ∧ wq.cell? ⟨bZ, 1, none⟩ = some (.slice a1 n1 c1) ∧ wq.cell? ⟨bZ, 2, none⟩ = some (.int .i64 e1) ∧ wq.cell? ⟨bZ, 3, none⟩ = some (.bool s2) ∧ wq.cell? ⟨bZ, 4, none⟩ = some (.slice a2 n2 c2) ∧ wq.cell? ⟨bZ, 5, none⟩ = some (.int .i64 e2) ∧ wq.cell? ⟨bW, 0, none⟩ = some (.bool s3) ∧ wq.cell? ⟨bW, 1, none⟩ = some (.slice a3 n3 c3) ∧ wq.cell? ⟨bW, 2, none⟩ = some (.int .i64 e3) ∧ wq.cell? ⟨bW, 3, none⟩ = some (.bool s4) ∧ wq.cell? ⟨bW, 4, none⟩ = some (.slice a4 n4 c4) ∧ wq.cell? ⟨bW, 5, none⟩ = some (.int .i64 e4))) :
    Code.wp Tryz.prog (Code.region 1 #[{ dst := some 9, op := Op.fieldAddr 213 (Operand.tmp 3) 0, type := 0, pos := "ref.go:46", after := #[], guard := none }, { dst := some 10, op := Op.load 84 (Operand.tmp 9), type := 84, pos := "ref.go:46", after := #[{ on := 0, ground := Ground.data }], guard := none }, { dst := some 11, op := Op.fieldAddr 213 (Operand.tmp 4) 0, type := 0, pos := "ref.go:46", after := #[], guard := none }, { dst := some 12, op := Op.load 84 (Operand.tmp 11), type := 84, pos := "ref.go:46", after := #[{ on := 2, ground := Ground.data }], guard := none }, { dst := some 13, op := Op.call { callee := Callee.value (Operand.func 190), args := #[Operand.tmp 10, Operand.tmp 12], argTypes := #[84, 84] }, type := 84, pos := "ref.go:46", after := #[{ on := 1, ground := Ground.data }, { on := 3, ground := Ground.data }], guard := none }, { dst := some 14, op := Op.fieldAddr 213 (Operand.tmp 3) 1, type := 0, pos := "ref.go:46", after := #[], guard := none }, { dst := some 15, op := Op.load 84 (Operand.tmp 14), type := 84, pos := "ref.go:46", after := #[{ on := 5, ground := Ground.data }], guard := none }, { dst := some 16, op := Op.fieldAddr 213 (Operand.tmp 4) 1, type := 0, pos := "ref.go:46", after := #[], guard := none }, { dst := some 17, op := Op.load 84 (Operand.tmp 16), type := 84, pos := "ref.go:46", after := #[{ on := 7, ground := Ground.data }], guard := none }, { dst := some 18, op := Op.call { callee := Callee.value (Operand.func 190), args := #[Operand.tmp 15, Operand.tmp 17], argTypes := #[84, 84] }, type := 84, pos := "ref.go:46", after := #[{ on := 6, ground := Ground.data }, { on := 8, ground := Ground.data }, { on := 4, ground := Ground.chain }], guard := none }, { dst := some 19, op := Op.call { callee := Callee.value (Operand.func 171), args := #[Operand.tmp 13, Operand.tmp 18], argTypes := #[84, 84] }, type := 84, pos := "ref.go:46", after := #[{ on := 4, ground := Ground.data }, { on := 9, ground := Ground.data }, { on := 9, ground := Ground.chain }], guard := none }, { dst := some 7, op := Op.alloc 84, type := 0, pos := "ref.go:46", after := #[], guard := none }, { dst := none, op := Op.store 84 (Operand.tmp 7) (Operand.tmp 19), type := 0, pos := "ref.go:46", after := #[{ on := 11, ground := Ground.data }, { on := 10, ground := Ground.data }, { on := 10, ground := Ground.chain }, { on := 0, ground := Ground.phase }, { on := 1, ground := Ground.phase }, { on := 2, ground := Ground.phase }, { on := 3, ground := Ground.phase }, { on := 4, ground := Ground.phase }, { on := 5, ground := Ground.phase }, { on := 6, ground := Ground.phase }, { on := 7, ground := Ground.phase }, { on := 8, ground := Ground.phase }, { on := 9, ground := Ground.phase }, { on := 10, ground := Ground.phase }, { on := 11, ground := Ground.phase }], guard := none }] true) (R188_1 t0 t1 t2 t5 t6 t7 t8 t9 t10 t11 t12 t13 t14 t15 t16 t17 t18 t19 t20 t21 t22 t23 t24 t25 t26 t27 t28 t29 t30 t31 t32 t33 t34 t35 t36 t37 t38 t39 bZ bW s1 a1 n1 c1 e1 s2 a2 n2 c2 e2 s3 a3 n3 c3 e3 s4 a4 n4 c4 e4 V1 V2 V3 L wq) { tmps := #[t0, t1, t2, .pointer (some ⟨bZ, 0, none⟩), .pointer (some ⟨bW, 0, none⟩), t5, t6, t7, t8, t9, t10, t11, t12, t13, t14, t15, t16, t17, t18, t19, t20, t21, t22, t23, t24, t25, t26, t27, t28, t29, t30, t31, t32, t33, t34, t35, t36, t37, t38, t39], defers := [] } wq := by
  have hS0 : (wq.drew.cell? ⟨bZ, 0, none⟩ = some (.bool s1) ∧ wq.drew.cell? ⟨bZ, 1, none⟩ = some (.slice a1 n1 c1) ∧ wq.drew.cell? ⟨bZ, 2, none⟩ = some (.int .i64 e1) ∧ wq.drew.cell? ⟨bZ, 3, none⟩ = some (.bool s2) ∧ wq.drew.cell? ⟨bZ, 4, none⟩ = some (.slice a2 n2 c2) ∧ wq.drew.cell? ⟨bZ, 5, none⟩ = some (.int .i64 e2) ∧ wq.drew.cell? ⟨bW, 0, none⟩ = some (.bool s3) ∧ wq.drew.cell? ⟨bW, 1, none⟩ = some (.slice a3 n3 c3) ∧ wq.drew.cell? ⟨bW, 2, none⟩ = some (.int .i64 e3) ∧ wq.drew.cell? ⟨bW, 3, none⟩ = some (.bool s4) ∧ wq.drew.cell? ⟨bW, 4, none⟩ = some (.slice a4 n4 c4) ∧ wq.drew.cell? ⟨bW, 5, none⟩ = some (.int .i64 e4)) ∧ Gr wq wq.drew := ⟨hcs, (Gr.refl wq).drew⟩
  clear hcs
  refine wp_region_held_drew (S := fun w' => (w'.cell? ⟨bZ, 0, none⟩ = some (.bool s1) ∧ w'.cell? ⟨bZ, 1, none⟩ = some (.slice a1 n1 c1) ∧ w'.cell? ⟨bZ, 2, none⟩ = some (.int .i64 e1) ∧ w'.cell? ⟨bZ, 3, none⟩ = some (.bool s2) ∧ w'.cell? ⟨bZ, 4, none⟩ = some (.slice a2 n2 c2) ∧ w'.cell? ⟨bZ, 5, none⟩ = some (.int .i64 e2) ∧ w'.cell? ⟨bW, 0, none⟩ = some (.bool s3) ∧ w'.cell? ⟨bW, 1, none⟩ = some (.slice a3 n3 c3) ∧ w'.cell? ⟨bW, 2, none⟩ = some (.int .i64 e3) ∧ w'.cell? ⟨bW, 3, none⟩ = some (.bool s4) ∧ w'.cell? ⟨bW, 4, none⟩ = some (.slice a4 n4 c4) ∧ w'.cell? ⟨bW, 5, none⟩ = some (.int .i64 e4)) ∧ Gr wq w') (by kernel_rfl) hS0 (fun hHeld => ?_)
  clear hS0
  generalize wq.drew = wd at *
  refine wpAnyH_take (i := 0) (oi := _) (v := ?_) rfl (by kernel_rfl) (by kernel_rfl) (by kernel_rfl) (fun _ _ _ h => h) (Or.inl ⟨by rfl, ?_⟩) (by with_reducible assumption) ?_
  rotate_left
  · intro w hSw
    (try dsimp only at hSw)
    first | (go_simp; done) | (go_simp; with_reducible rfl)
  (try simp only [Act.put, List.setIfInBounds_toArray, List.set_cons_zero, List.set_cons_succ])
  refine wpAnyH_take (i := 1) (oi := _) (v := ?_) rfl (by kernel_rfl) (by kernel_rfl) (by kernel_rfl) (fun _ _ _ h => h) (Or.inl ⟨by rfl, ?_⟩) (by with_reducible assumption) ?_
  rotate_left
  · intro w hSw
    (try dsimp only at hSw)
    first | (go_simp; done) | (go_simp; with_reducible rfl)
  (try simp only [Act.put, List.setIfInBounds_toArray, List.set_cons_zero, List.set_cons_succ])
  refine wpAnyH_take (i := 2) (oi := _) (v := ?_) rfl (by kernel_rfl) (by kernel_rfl) (by kernel_rfl) (fun _ _ _ h => h) (Or.inl ⟨by rfl, ?_⟩) (by with_reducible assumption) ?_
  rotate_left
  · intro w hSw
    (try dsimp only at hSw)
    first | (go_simp; done) | (go_simp; with_reducible rfl)
  (try simp only [Act.put, List.setIfInBounds_toArray, List.set_cons_zero, List.set_cons_succ])
  refine wpAnyH_take (i := 3) (oi := _) (v := ?_) rfl (by kernel_rfl) (by kernel_rfl) (by kernel_rfl) (fun _ _ _ h => h) (Or.inl ⟨by rfl, ?_⟩) (by with_reducible assumption) ?_
  rotate_left
  · intro w hSw
    (try dsimp only at hSw)
    first | (go_simp; done) | (go_simp; with_reducible rfl)
  (try simp only [Act.put, List.setIfInBounds_toArray, List.set_cons_zero, List.set_cons_succ])
  refine wpAnyH_take (i := 5) (oi := _) (v := ?_) rfl (by kernel_rfl) (by kernel_rfl) (by kernel_rfl) (fun _ _ _ h => h) (Or.inl ⟨by rfl, ?_⟩) (by with_reducible assumption) ?_
  rotate_left
  · intro w hSw
    (try dsimp only at hSw)
    first | (go_simp; done) | (go_simp; with_reducible rfl)
  (try simp only [Act.put, List.setIfInBounds_toArray, List.set_cons_zero, List.set_cons_succ])
  refine wpAnyH_take (i := 6) (oi := _) (v := ?_) rfl (by kernel_rfl) (by kernel_rfl) (by kernel_rfl) (fun _ _ _ h => h) (Or.inl ⟨by rfl, ?_⟩) (by with_reducible assumption) ?_
  rotate_left
  · intro w hSw
    (try dsimp only at hSw)
    first | (go_simp; done) | (go_simp; with_reducible rfl)
  (try simp only [Act.put, List.setIfInBounds_toArray, List.set_cons_zero, List.set_cons_succ])
  refine wpAnyH_take (i := 7) (oi := _) (v := ?_) rfl (by kernel_rfl) (by kernel_rfl) (by kernel_rfl) (fun _ _ _ h => h) (Or.inl ⟨by rfl, ?_⟩) (by with_reducible assumption) ?_
  rotate_left
  · intro w hSw
    (try dsimp only at hSw)
    first | (go_simp; done) | (go_simp; with_reducible rfl)
  (try simp only [Act.put, List.setIfInBounds_toArray, List.set_cons_zero, List.set_cons_succ])
  refine wpAnyH_take (i := 8) (oi := _) (v := ?_) rfl (by kernel_rfl) (by kernel_rfl) (by kernel_rfl) (fun _ _ _ h => h) (Or.inl ⟨by rfl, ?_⟩) (by with_reducible assumption) ?_
  rotate_left
  · intro w hSw
    (try dsimp only at hSw)
    first | (go_simp; done) | (go_simp; with_reducible rfl)
  (try simp only [Act.put, List.setIfInBounds_toArray, List.set_cons_zero, List.set_cons_succ])
  refine wpAnyH_ready (rs := [4, 11]) (by kernel_rfl) (by simp) ?_
  refine AllReadyH.cons (o := _) rfl (fun K hK => ?_) ?_
  · go_simp
    with_reducible refine (T1.out _ hHeld.2).mono ?_
    rintro r wc1 ⟨⟨s5, a5, n5, c5, e5, rfl, d1_4⟩, gg3⟩
    refine hK.out _ _ ⟨⟨gg3.keep hHeld.1.1, gg3.keep hHeld.1.2.1, gg3.keep hHeld.1.2.2.1, gg3.keep hHeld.1.2.2.2.1, gg3.keep hHeld.1.2.2.2.2.1, gg3.keep hHeld.1.2.2.2.2.2.1, gg3.keep hHeld.1.2.2.2.2.2.2.1, gg3.keep hHeld.1.2.2.2.2.2.2.2.1, gg3.keep hHeld.1.2.2.2.2.2.2.2.2.1, gg3.keep hHeld.1.2.2.2.2.2.2.2.2.2.1, gg3.keep hHeld.1.2.2.2.2.2.2.2.2.2.2.1, gg3.keep hHeld.1.2.2.2.2.2.2.2.2.2.2.2⟩, hHeld.2.trans gg3⟩ (fun hH2 => ?_)
    clear hK K
    (try simp only [Act.put, List.setIfInBounds_toArray, List.set_cons_zero, List.set_cons_succ])
    refine wpAnyH_ready (rs := [9, 11]) (by kernel_rfl) (by simp) ?_
    refine AllReadyH.cons (o := _) rfl (fun K hK => ?_) ?_
    · go_simp
      with_reducible refine (T2.out _ hH2.2).mono ?_
      rintro r wc5 ⟨⟨s6, a6, n6, c6, e6, rfl, d2_8⟩, gg7⟩
      refine hK.out _ _ ⟨⟨gg7.keep hH2.1.1, gg7.keep hH2.1.2.1, gg7.keep hH2.1.2.2.1, gg7.keep hH2.1.2.2.2.1, gg7.keep hH2.1.2.2.2.2.1, gg7.keep hH2.1.2.2.2.2.2.1, gg7.keep hH2.1.2.2.2.2.2.2.1, gg7.keep hH2.1.2.2.2.2.2.2.2.1, gg7.keep hH2.1.2.2.2.2.2.2.2.2.1, gg7.keep hH2.1.2.2.2.2.2.2.2.2.2.1, gg7.keep hH2.1.2.2.2.2.2.2.2.2.2.2.1, gg7.keep hH2.1.2.2.2.2.2.2.2.2.2.2.2⟩, hH2.2.trans gg7⟩ (fun hH6 => ?_)
      clear hK K
      (try simp only [Act.put, List.setIfInBounds_toArray, List.set_cons_zero, List.set_cons_succ])
      have d1_9 := d1_4.gr gg7
      clear d1_4
      refine wpAnyH_ready (rs := [10, 11]) (by kernel_rfl) (by simp) ?_
      refine AllReadyH.cons (o := _) rfl (fun K hK => ?_) ?_
      · go_simp
        with_reducible refine (T3.out _ _ _ _ _ _ _ _ _ _ _ hH6.2 d1_9 d2_8).mono ?_
        rintro r wc10 ⟨⟨s7, a7, n7, c7, e7, rfl, d3_13⟩, gg12⟩
        refine hK.out _ _ ⟨⟨gg12.keep hH6.1.1, gg12.keep hH6.1.2.1, gg12.keep hH6.1.2.2.1, gg12.keep hH6.1.2.2.2.1, gg12.keep hH6.1.2.2.2.2.1, gg12.keep hH6.1.2.2.2.2.2.1, gg12.keep hH6.1.2.2.2.2.2.2.1, gg12.keep hH6.1.2.2.2.2.2.2.2.1, gg12.keep hH6.1.2.2.2.2.2.2.2.2.1, gg12.keep hH6.1.2.2.2.2.2.2.2.2.2.1, gg12.keep hH6.1.2.2.2.2.2.2.2.2.2.2.1, gg12.keep hH6.1.2.2.2.2.2.2.2.2.2.2.2⟩, hH6.2.trans gg12⟩ (fun hH11 => ?_)
        clear hK K
        (try simp only [Act.put, List.setIfInBounds_toArray, List.set_cons_zero, List.set_cons_succ])
        have d1_14 := d1_9.gr gg12
        clear d1_9
        have d2_15 := d2_8.gr gg12
        clear d2_8
        refine wpAnyH_ready (rs := [11]) (by kernel_rfl) (by simp) ?_
        refine AllReadyH.cons (o := _) rfl (fun K hK => ?_) AllReadyH.nil
        go_simp
        refine hK.out _ _ ⟨⟨((Gr.refl wc10).alloc (.cells #[.bool false, .slice none 0 0, .int .i64 0] 84)).keep hH11.1.1, ((Gr.refl wc10).alloc (.cells #[.bool false, .slice none 0 0, .int .i64 0] 84)).keep hH11.1.2.1, ((Gr.refl wc10).alloc (.cells #[.bool false, .slice none 0 0, .int .i64 0] 84)).keep hH11.1.2.2.1, ((Gr.refl wc10).alloc (.cells #[.bool false, .slice none 0 0, .int .i64 0] 84)).keep hH11.1.2.2.2.1, ((Gr.refl wc10).alloc (.cells #[.bool false, .slice none 0 0, .int .i64 0] 84)).keep hH11.1.2.2.2.2.1, ((Gr.refl wc10).alloc (.cells #[.bool false, .slice none 0 0, .int .i64 0] 84)).keep hH11.1.2.2.2.2.2.1, ((Gr.refl wc10).alloc (.cells #[.bool false, .slice none 0 0, .int .i64 0] 84)).keep hH11.1.2.2.2.2.2.2.1, ((Gr.refl wc10).alloc (.cells #[.bool false, .slice none 0 0, .int .i64 0] 84)).keep hH11.1.2.2.2.2.2.2.2.1, ((Gr.refl wc10).alloc (.cells #[.bool false, .slice none 0 0, .int .i64 0] 84)).keep hH11.1.2.2.2.2.2.2.2.2.1, ((Gr.refl wc10).alloc (.cells #[.bool false, .slice none 0 0, .int .i64 0] 84)).keep hH11.1.2.2.2.2.2.2.2.2.2.1, ((Gr.refl wc10).alloc (.cells #[.bool false, .slice none 0 0, .int .i64 0] 84)).keep hH11.1.2.2.2.2.2.2.2.2.2.2.1, ((Gr.refl wc10).alloc (.cells #[.bool false, .slice none 0 0, .int .i64 0] 84)).keep hH11.1.2.2.2.2.2.2.2.2.2.2.2⟩, hH11.2.trans ((Gr.refl wc10).alloc (.cells #[.bool false, .slice none 0 0, .int .i64 0] 84))⟩ (fun hH17 => ?_)
        clear hK K
        (try simp only [Act.put, List.setIfInBounds_toArray, List.set_cons_zero, List.set_cons_succ])
        have bS_19 := new_at wc10 (.cells #[.bool false, .slice none 0 0, .int .i64 0] 84)
        have gg18 := (Gr.refl wc10).alloc (.cells #[.bool false, .slice none 0 0, .int .i64 0] 84)
        have lbS20 := hH11.2.size
        have d1_21 := d1_14.gr gg18
        clear d1_14
        have d2_22 := d2_15.gr gg18
        clear d2_15
        have d3_23 := d3_13.gr gg18
        clear d3_13
        generalize wc10.alloc (.cells #[.bool false, .slice none 0 0, .int .i64 0] 84) = wa16 at *
        refine wpAnyH_ready (rs := [12]) (by kernel_rfl) (by simp) ?_
        refine AllReadyH.cons (o := _) rfl (fun K hK => ?_) AllReadyH.nil
        obtain ⟨t0', t1', t2'⟩ := cells_ofT bS_19
        obtain ⟨u0', u1', u2'⟩ := open_ofT bS_19
        go_simp
        refine hK.out _ _ ⟨⟨set3_far (Nat.ne_of_gt (Nat.lt_of_lt_of_le hbZ lbS20)) hH17.1.1, set3_far (Nat.ne_of_gt (Nat.lt_of_lt_of_le hbZ lbS20)) hH17.1.2.1, set3_far (Nat.ne_of_gt (Nat.lt_of_lt_of_le hbZ lbS20)) hH17.1.2.2.1, set3_far (Nat.ne_of_gt (Nat.lt_of_lt_of_le hbZ lbS20)) hH17.1.2.2.2.1, set3_far (Nat.ne_of_gt (Nat.lt_of_lt_of_le hbZ lbS20)) hH17.1.2.2.2.2.1, set3_far (Nat.ne_of_gt (Nat.lt_of_lt_of_le hbZ lbS20)) hH17.1.2.2.2.2.2.1, set3_far (Nat.ne_of_gt (Nat.lt_of_lt_of_le hbW lbS20)) hH17.1.2.2.2.2.2.2.1, set3_far (Nat.ne_of_gt (Nat.lt_of_lt_of_le hbW lbS20)) hH17.1.2.2.2.2.2.2.2.1, set3_far (Nat.ne_of_gt (Nat.lt_of_lt_of_le hbW lbS20)) hH17.1.2.2.2.2.2.2.2.2.1, set3_far (Nat.ne_of_gt (Nat.lt_of_lt_of_le hbW lbS20)) hH17.1.2.2.2.2.2.2.2.2.2.1, set3_far (Nat.ne_of_gt (Nat.lt_of_lt_of_le hbW lbS20)) hH17.1.2.2.2.2.2.2.2.2.2.2.1, set3_far (Nat.ne_of_gt (Nat.lt_of_lt_of_le hbW lbS20)) hH17.1.2.2.2.2.2.2.2.2.2.2.2⟩, (((hH17.2.setCell (p := ⟨_, 0, none⟩) lbS20 _).setCell (p := ⟨_, 1, none⟩) lbS20 _).setCell (p := ⟨_, 2, none⟩) lbS20 _)⟩ (fun hS24 => ?_)
        clear hK K t0' t1' t2' u0' u1' u2'
        (try simp only [Act.put, List.setIfInBounds_toArray, List.set_cons_zero, List.set_cons_succ])
        refine wpAnyH_done (by kernel_rfl) ?_ _
        exact ⟨_, _, _, _, _, _, _, _, _, _, _, _, _, _, _, _, _, rfl, put_block bS_19 _ _ _, d3_23.put bS_19 _ _ _, lbS20, hS24.2⟩
      refine AllReadyH.cons (o := _) rfl (fun K hK => ?_) AllReadyH.nil
      go_simp
      refine hK.out _ _ ⟨⟨((Gr.refl wc5).alloc (.cells #[.bool false, .slice none 0 0, .int .i64 0] 84)).keep hH6.1.1, ((Gr.refl wc5).alloc (.cells #[.bool false, .slice none 0 0, .int .i64 0] 84)).keep hH6.1.2.1, ((Gr.refl wc5).alloc (.cells #[.bool false, .slice none 0 0, .int .i64 0] 84)).keep hH6.1.2.2.1, ((Gr.refl wc5).alloc (.cells #[.bool false, .slice none 0 0, .int .i64 0] 84)).keep hH6.1.2.2.2.1, ((Gr.refl wc5).alloc (.cells #[.bool false, .slice none 0 0, .int .i64 0] 84)).keep hH6.1.2.2.2.2.1, ((Gr.refl wc5).alloc (.cells #[.bool false, .slice none 0 0, .int .i64 0] 84)).keep hH6.1.2.2.2.2.2.1, ((Gr.refl wc5).alloc (.cells #[.bool false, .slice none 0 0, .int .i64 0] 84)).keep hH6.1.2.2.2.2.2.2.1, ((Gr.refl wc5).alloc (.cells #[.bool false, .slice none 0 0, .int .i64 0] 84)).keep hH6.1.2.2.2.2.2.2.2.1, ((Gr.refl wc5).alloc (.cells #[.bool false, .slice none 0 0, .int .i64 0] 84)).keep hH6.1.2.2.2.2.2.2.2.2.1, ((Gr.refl wc5).alloc (.cells #[.bool false, .slice none 0 0, .int .i64 0] 84)).keep hH6.1.2.2.2.2.2.2.2.2.2.1, ((Gr.refl wc5).alloc (.cells #[.bool false, .slice none 0 0, .int .i64 0] 84)).keep hH6.1.2.2.2.2.2.2.2.2.2.2.1, ((Gr.refl wc5).alloc (.cells #[.bool false, .slice none 0 0, .int .i64 0] 84)).keep hH6.1.2.2.2.2.2.2.2.2.2.2.2⟩, hH6.2.trans ((Gr.refl wc5).alloc (.cells #[.bool false, .slice none 0 0, .int .i64 0] 84))⟩ (fun hH26 => ?_)
      clear hK K
      (try simp only [Act.put, List.setIfInBounds_toArray, List.set_cons_zero, List.set_cons_succ])
      have bS_28 := new_at wc5 (.cells #[.bool false, .slice none 0 0, .int .i64 0] 84)
      have gg27 := (Gr.refl wc5).alloc (.cells #[.bool false, .slice none 0 0, .int .i64 0] 84)
      have lbS29 := hH6.2.size
      have d1_30 := d1_9.gr gg27
      clear d1_9
      have d2_31 := d2_8.gr gg27
      clear d2_8
      generalize wc5.alloc (.cells #[.bool false, .slice none 0 0, .int .i64 0] 84) = wa25 at *
      refine wpAnyH_ready (rs := [10]) (by kernel_rfl) (by simp) ?_
      refine AllReadyH.cons (o := _) rfl (fun K hK => ?_) AllReadyH.nil
      go_simp
      with_reducible refine (T3.out _ _ _ _ _ _ _ _ _ _ _ hH26.2 d1_30 d2_31).mono ?_
      rintro r wc32 ⟨⟨s7, a7, n7, c7, e7, rfl, d3_35⟩, gg34⟩
      refine hK.out _ _ ⟨⟨gg34.keep hH26.1.1, gg34.keep hH26.1.2.1, gg34.keep hH26.1.2.2.1, gg34.keep hH26.1.2.2.2.1, gg34.keep hH26.1.2.2.2.2.1, gg34.keep hH26.1.2.2.2.2.2.1, gg34.keep hH26.1.2.2.2.2.2.2.1, gg34.keep hH26.1.2.2.2.2.2.2.2.1, gg34.keep hH26.1.2.2.2.2.2.2.2.2.1, gg34.keep hH26.1.2.2.2.2.2.2.2.2.2.1, gg34.keep hH26.1.2.2.2.2.2.2.2.2.2.2.1, gg34.keep hH26.1.2.2.2.2.2.2.2.2.2.2.2⟩, hH26.2.trans gg34⟩ (fun hH33 => ?_)
      clear hK K
      (try simp only [Act.put, List.setIfInBounds_toArray, List.set_cons_zero, List.set_cons_succ])
      have d1_36 := d1_30.gr gg34
      clear d1_30
      have d2_37 := d2_31.gr gg34
      clear d2_31
      have bS_38 := gg34.keepH bS_28
      clear bS_28
      refine wpAnyH_ready (rs := [12]) (by kernel_rfl) (by simp) ?_
      refine AllReadyH.cons (o := _) rfl (fun K hK => ?_) AllReadyH.nil
      obtain ⟨t0', t1', t2'⟩ := cells_ofT bS_38
      obtain ⟨u0', u1', u2'⟩ := open_ofT bS_38
      go_simp
      refine hK.out _ _ ⟨⟨set3_far (Nat.ne_of_gt (Nat.lt_of_lt_of_le hbZ lbS29)) hH33.1.1, set3_far (Nat.ne_of_gt (Nat.lt_of_lt_of_le hbZ lbS29)) hH33.1.2.1, set3_far (Nat.ne_of_gt (Nat.lt_of_lt_of_le hbZ lbS29)) hH33.1.2.2.1, set3_far (Nat.ne_of_gt (Nat.lt_of_lt_of_le hbZ lbS29)) hH33.1.2.2.2.1, set3_far (Nat.ne_of_gt (Nat.lt_of_lt_of_le hbZ lbS29)) hH33.1.2.2.2.2.1, set3_far (Nat.ne_of_gt (Nat.lt_of_lt_of_le hbZ lbS29)) hH33.1.2.2.2.2.2.1, set3_far (Nat.ne_of_gt (Nat.lt_of_lt_of_le hbW lbS29)) hH33.1.2.2.2.2.2.2.1, set3_far (Nat.ne_of_gt (Nat.lt_of_lt_of_le hbW lbS29)) hH33.1.2.2.2.2.2.2.2.1, set3_far (Nat.ne_of_gt (Nat.lt_of_lt_of_le hbW lbS29)) hH33.1.2.2.2.2.2.2.2.2.1, set3_far (Nat.ne_of_gt (Nat.lt_of_lt_of_le hbW lbS29)) hH33.1.2.2.2.2.2.2.2.2.2.1, set3_far (Nat.ne_of_gt (Nat.lt_of_lt_of_le hbW lbS29)) hH33.1.2.2.2.2.2.2.2.2.2.2.1, set3_far (Nat.ne_of_gt (Nat.lt_of_lt_of_le hbW lbS29)) hH33.1.2.2.2.2.2.2.2.2.2.2.2⟩, (((hH33.2.setCell (p := ⟨_, 0, none⟩) lbS29 _).setCell (p := ⟨_, 1, none⟩) lbS29 _).setCell (p := ⟨_, 2, none⟩) lbS29 _)⟩ (fun hS39 => ?_)
      clear hK K t0' t1' t2' u0' u1' u2'
      (try simp only [Act.put, List.setIfInBounds_toArray, List.set_cons_zero, List.set_cons_succ])
      refine wpAnyH_done (by kernel_rfl) ?_ _
      exact ⟨_, _, _, _, _, _, _, _, _, _, _, _, _, _, _, _, _, rfl, put_block bS_38 _ _ _, d3_35.put bS_38 _ _ _, lbS29, hS39.2⟩
    refine AllReadyH.cons (o := _) rfl (fun K hK => ?_) AllReadyH.nil
    go_simp
    refine hK.out _ _ ⟨⟨((Gr.refl wc1).alloc (.cells #[.bool false, .slice none 0 0, .int .i64 0] 84)).keep hH2.1.1, ((Gr.refl wc1).alloc (.cells #[.bool false, .slice none 0 0, .int .i64 0] 84)).keep hH2.1.2.1, ((Gr.refl wc1).alloc (.cells #[.bool false, .slice none 0 0, .int .i64 0] 84)).keep hH2.1.2.2.1, ((Gr.refl wc1).alloc (.cells #[.bool false, .slice none 0 0, .int .i64 0] 84)).keep hH2.1.2.2.2.1, ((Gr.refl wc1).alloc (.cells #[.bool false, .slice none 0 0, .int .i64 0] 84)).keep hH2.1.2.2.2.2.1, ((Gr.refl wc1).alloc (.cells #[.bool false, .slice none 0 0, .int .i64 0] 84)).keep hH2.1.2.2.2.2.2.1, ((Gr.refl wc1).alloc (.cells #[.bool false, .slice none 0 0, .int .i64 0] 84)).keep hH2.1.2.2.2.2.2.2.1, ((Gr.refl wc1).alloc (.cells #[.bool false, .slice none 0 0, .int .i64 0] 84)).keep hH2.1.2.2.2.2.2.2.2.1, ((Gr.refl wc1).alloc (.cells #[.bool false, .slice none 0 0, .int .i64 0] 84)).keep hH2.1.2.2.2.2.2.2.2.2.1, ((Gr.refl wc1).alloc (.cells #[.bool false, .slice none 0 0, .int .i64 0] 84)).keep hH2.1.2.2.2.2.2.2.2.2.2.1, ((Gr.refl wc1).alloc (.cells #[.bool false, .slice none 0 0, .int .i64 0] 84)).keep hH2.1.2.2.2.2.2.2.2.2.2.2.1, ((Gr.refl wc1).alloc (.cells #[.bool false, .slice none 0 0, .int .i64 0] 84)).keep hH2.1.2.2.2.2.2.2.2.2.2.2.2⟩, hH2.2.trans ((Gr.refl wc1).alloc (.cells #[.bool false, .slice none 0 0, .int .i64 0] 84))⟩ (fun hH41 => ?_)
    clear hK K
    (try simp only [Act.put, List.setIfInBounds_toArray, List.set_cons_zero, List.set_cons_succ])
    have bS_43 := new_at wc1 (.cells #[.bool false, .slice none 0 0, .int .i64 0] 84)
    have gg42 := (Gr.refl wc1).alloc (.cells #[.bool false, .slice none 0 0, .int .i64 0] 84)
    have lbS44 := hH2.2.size
    have d1_45 := d1_4.gr gg42
    clear d1_4
    generalize wc1.alloc (.cells #[.bool false, .slice none 0 0, .int .i64 0] 84) = wa40 at *
    refine wpAnyH_ready (rs := [9]) (by kernel_rfl) (by simp) ?_
    refine AllReadyH.cons (o := _) rfl (fun K hK => ?_) AllReadyH.nil
    go_simp
    with_reducible refine (T2.out _ hH41.2).mono ?_
    rintro r wc46 ⟨⟨s6, a6, n6, c6, e6, rfl, d2_49⟩, gg48⟩
    refine hK.out _ _ ⟨⟨gg48.keep hH41.1.1, gg48.keep hH41.1.2.1, gg48.keep hH41.1.2.2.1, gg48.keep hH41.1.2.2.2.1, gg48.keep hH41.1.2.2.2.2.1, gg48.keep hH41.1.2.2.2.2.2.1, gg48.keep hH41.1.2.2.2.2.2.2.1, gg48.keep hH41.1.2.2.2.2.2.2.2.1, gg48.keep hH41.1.2.2.2.2.2.2.2.2.1, gg48.keep hH41.1.2.2.2.2.2.2.2.2.2.1, gg48.keep hH41.1.2.2.2.2.2.2.2.2.2.2.1, gg48.keep hH41.1.2.2.2.2.2.2.2.2.2.2.2⟩, hH41.2.trans gg48⟩ (fun hH47 => ?_)
    clear hK K
    (try simp only [Act.put, List.setIfInBounds_toArray, List.set_cons_zero, List.set_cons_succ])
    have d1_50 := d1_45.gr gg48
    clear d1_45
    have bS_51 := gg48.keepH bS_43
    clear bS_43
    refine wpAnyH_ready (rs := [10]) (by kernel_rfl) (by simp) ?_
    refine AllReadyH.cons (o := _) rfl (fun K hK => ?_) AllReadyH.nil
    go_simp
    with_reducible refine (T3.out _ _ _ _ _ _ _ _ _ _ _ hH47.2 d1_50 d2_49).mono ?_
    rintro r wc52 ⟨⟨s7, a7, n7, c7, e7, rfl, d3_55⟩, gg54⟩
    refine hK.out _ _ ⟨⟨gg54.keep hH47.1.1, gg54.keep hH47.1.2.1, gg54.keep hH47.1.2.2.1, gg54.keep hH47.1.2.2.2.1, gg54.keep hH47.1.2.2.2.2.1, gg54.keep hH47.1.2.2.2.2.2.1, gg54.keep hH47.1.2.2.2.2.2.2.1, gg54.keep hH47.1.2.2.2.2.2.2.2.1, gg54.keep hH47.1.2.2.2.2.2.2.2.2.1, gg54.keep hH47.1.2.2.2.2.2.2.2.2.2.1, gg54.keep hH47.1.2.2.2.2.2.2.2.2.2.2.1, gg54.keep hH47.1.2.2.2.2.2.2.2.2.2.2.2⟩, hH47.2.trans gg54⟩ (fun hH53 => ?_)
    clear hK K
    (try simp only [Act.put, List.setIfInBounds_toArray, List.set_cons_zero, List.set_cons_succ])
    have d1_56 := d1_50.gr gg54
    clear d1_50
    have bS_57 := gg54.keepH bS_51
    clear bS_51
    have d2_58 := d2_49.gr gg54
    clear d2_49
    refine wpAnyH_ready (rs := [12]) (by kernel_rfl) (by simp) ?_
    refine AllReadyH.cons (o := _) rfl (fun K hK => ?_) AllReadyH.nil
    obtain ⟨t0', t1', t2'⟩ := cells_ofT bS_57
    obtain ⟨u0', u1', u2'⟩ := open_ofT bS_57
    go_simp
    refine hK.out _ _ ⟨⟨set3_far (Nat.ne_of_gt (Nat.lt_of_lt_of_le hbZ lbS44)) hH53.1.1, set3_far (Nat.ne_of_gt (Nat.lt_of_lt_of_le hbZ lbS44)) hH53.1.2.1, set3_far (Nat.ne_of_gt (Nat.lt_of_lt_of_le hbZ lbS44)) hH53.1.2.2.1, set3_far (Nat.ne_of_gt (Nat.lt_of_lt_of_le hbZ lbS44)) hH53.1.2.2.2.1, set3_far (Nat.ne_of_gt (Nat.lt_of_lt_of_le hbZ lbS44)) hH53.1.2.2.2.2.1, set3_far (Nat.ne_of_gt (Nat.lt_of_lt_of_le hbZ lbS44)) hH53.1.2.2.2.2.2.1, set3_far (Nat.ne_of_gt (Nat.lt_of_lt_of_le hbW lbS44)) hH53.1.2.2.2.2.2.2.1, set3_far (Nat.ne_of_gt (Nat.lt_of_lt_of_le hbW lbS44)) hH53.1.2.2.2.2.2.2.2.1, set3_far (Nat.ne_of_gt (Nat.lt_of_lt_of_le hbW lbS44)) hH53.1.2.2.2.2.2.2.2.2.1, set3_far (Nat.ne_of_gt (Nat.lt_of_lt_of_le hbW lbS44)) hH53.1.2.2.2.2.2.2.2.2.2.1, set3_far (Nat.ne_of_gt (Nat.lt_of_lt_of_le hbW lbS44)) hH53.1.2.2.2.2.2.2.2.2.2.2.1, set3_far (Nat.ne_of_gt (Nat.lt_of_lt_of_le hbW lbS44)) hH53.1.2.2.2.2.2.2.2.2.2.2.2⟩, (((hH53.2.setCell (p := ⟨_, 0, none⟩) lbS44 _).setCell (p := ⟨_, 1, none⟩) lbS44 _).setCell (p := ⟨_, 2, none⟩) lbS44 _)⟩ (fun hS59 => ?_)
    clear hK K t0' t1' t2' u0' u1' u2'
    (try simp only [Act.put, List.setIfInBounds_toArray, List.set_cons_zero, List.set_cons_succ])
    refine wpAnyH_done (by kernel_rfl) ?_ _
    exact ⟨_, _, _, _, _, _, _, _, _, _, _, _, _, _, _, _, _, rfl, put_block bS_57 _ _ _, d3_55.put bS_57 _ _ _, lbS44, hS59.2⟩
  refine AllReadyH.cons (o := _) rfl (fun K hK => ?_) AllReadyH.nil
  go_simp
  refine hK.out _ _ ⟨⟨((Gr.refl wd).alloc (.cells #[.bool false, .slice none 0 0, .int .i64 0] 84)).keep hHeld.1.1, ((Gr.refl wd).alloc (.cells #[.bool false, .slice none 0 0, .int .i64 0] 84)).keep hHeld.1.2.1, ((Gr.refl wd).alloc (.cells #[.bool false, .slice none 0 0, .int .i64 0] 84)).keep hHeld.1.2.2.1, ((Gr.refl wd).alloc (.cells #[.bool false, .slice none 0 0, .int .i64 0] 84)).keep hHeld.1.2.2.2.1, ((Gr.refl wd).alloc (.cells #[.bool false, .slice none 0 0, .int .i64 0] 84)).keep hHeld.1.2.2.2.2.1, ((Gr.refl wd).alloc (.cells #[.bool false, .slice none 0 0, .int .i64 0] 84)).keep hHeld.1.2.2.2.2.2.1, ((Gr.refl wd).alloc (.cells #[.bool false, .slice none 0 0, .int .i64 0] 84)).keep hHeld.1.2.2.2.2.2.2.1, ((Gr.refl wd).alloc (.cells #[.bool false, .slice none 0 0, .int .i64 0] 84)).keep hHeld.1.2.2.2.2.2.2.2.1, ((Gr.refl wd).alloc (.cells #[.bool false, .slice none 0 0, .int .i64 0] 84)).keep hHeld.1.2.2.2.2.2.2.2.2.1, ((Gr.refl wd).alloc (.cells #[.bool false, .slice none 0 0, .int .i64 0] 84)).keep hHeld.1.2.2.2.2.2.2.2.2.2.1, ((Gr.refl wd).alloc (.cells #[.bool false, .slice none 0 0, .int .i64 0] 84)).keep hHeld.1.2.2.2.2.2.2.2.2.2.2.1, ((Gr.refl wd).alloc (.cells #[.bool false, .slice none 0 0, .int .i64 0] 84)).keep hHeld.1.2.2.2.2.2.2.2.2.2.2.2⟩, hHeld.2.trans ((Gr.refl wd).alloc (.cells #[.bool false, .slice none 0 0, .int .i64 0] 84))⟩ (fun hH61 => ?_)
  clear hK K
  (try simp only [Act.put, List.setIfInBounds_toArray, List.set_cons_zero, List.set_cons_succ])
  have bS_63 := new_at wd (.cells #[.bool false, .slice none 0 0, .int .i64 0] 84)
  have gg62 := (Gr.refl wd).alloc (.cells #[.bool false, .slice none 0 0, .int .i64 0] 84)
  have lbS64 := hHeld.2.size
  generalize wd.alloc (.cells #[.bool false, .slice none 0 0, .int .i64 0] 84) = wa60 at *
  refine wpAnyH_ready (rs := [4]) (by kernel_rfl) (by simp) ?_
  refine AllReadyH.cons (o := _) rfl (fun K hK => ?_) AllReadyH.nil
  go_simp
  with_reducible refine (T1.out _ hH61.2).mono ?_
  rintro r wc65 ⟨⟨s5, a5, n5, c5, e5, rfl, d1_68⟩, gg67⟩
  refine hK.out _ _ ⟨⟨gg67.keep hH61.1.1, gg67.keep hH61.1.2.1, gg67.keep hH61.1.2.2.1, gg67.keep hH61.1.2.2.2.1, gg67.keep hH61.1.2.2.2.2.1, gg67.keep hH61.1.2.2.2.2.2.1, gg67.keep hH61.1.2.2.2.2.2.2.1, gg67.keep hH61.1.2.2.2.2.2.2.2.1, gg67.keep hH61.1.2.2.2.2.2.2.2.2.1, gg67.keep hH61.1.2.2.2.2.2.2.2.2.2.1, gg67.keep hH61.1.2.2.2.2.2.2.2.2.2.2.1, gg67.keep hH61.1.2.2.2.2.2.2.2.2.2.2.2⟩, hH61.2.trans gg67⟩ (fun hH66 => ?_)
  clear hK K
  (try simp only [Act.put, List.setIfInBounds_toArray, List.set_cons_zero, List.set_cons_succ])
  have bS_69 := gg67.keepH bS_63
  clear bS_63
  refine wpAnyH_ready (rs := [9]) (by kernel_rfl) (by simp) ?_
  refine AllReadyH.cons (o := _) rfl (fun K hK => ?_) AllReadyH.nil
  go_simp
  with_reducible refine (T2.out _ hH66.2).mono ?_
  rintro r wc70 ⟨⟨s6, a6, n6, c6, e6, rfl, d2_73⟩, gg72⟩
  refine hK.out _ _ ⟨⟨gg72.keep hH66.1.1, gg72.keep hH66.1.2.1, gg72.keep hH66.1.2.2.1, gg72.keep hH66.1.2.2.2.1, gg72.keep hH66.1.2.2.2.2.1, gg72.keep hH66.1.2.2.2.2.2.1, gg72.keep hH66.1.2.2.2.2.2.2.1, gg72.keep hH66.1.2.2.2.2.2.2.2.1, gg72.keep hH66.1.2.2.2.2.2.2.2.2.1, gg72.keep hH66.1.2.2.2.2.2.2.2.2.2.1, gg72.keep hH66.1.2.2.2.2.2.2.2.2.2.2.1, gg72.keep hH66.1.2.2.2.2.2.2.2.2.2.2.2⟩, hH66.2.trans gg72⟩ (fun hH71 => ?_)
  clear hK K
  (try simp only [Act.put, List.setIfInBounds_toArray, List.set_cons_zero, List.set_cons_succ])
  have bS_74 := gg72.keepH bS_69
  clear bS_69
  have d1_75 := d1_68.gr gg72
  clear d1_68
  refine wpAnyH_ready (rs := [10]) (by kernel_rfl) (by simp) ?_
  refine AllReadyH.cons (o := _) rfl (fun K hK => ?_) AllReadyH.nil
  go_simp
  with_reducible refine (T3.out _ _ _ _ _ _ _ _ _ _ _ hH71.2 d1_75 d2_73).mono ?_
  rintro r wc76 ⟨⟨s7, a7, n7, c7, e7, rfl, d3_79⟩, gg78⟩
  refine hK.out _ _ ⟨⟨gg78.keep hH71.1.1, gg78.keep hH71.1.2.1, gg78.keep hH71.1.2.2.1, gg78.keep hH71.1.2.2.2.1, gg78.keep hH71.1.2.2.2.2.1, gg78.keep hH71.1.2.2.2.2.2.1, gg78.keep hH71.1.2.2.2.2.2.2.1, gg78.keep hH71.1.2.2.2.2.2.2.2.1, gg78.keep hH71.1.2.2.2.2.2.2.2.2.1, gg78.keep hH71.1.2.2.2.2.2.2.2.2.2.1, gg78.keep hH71.1.2.2.2.2.2.2.2.2.2.2.1, gg78.keep hH71.1.2.2.2.2.2.2.2.2.2.2.2⟩, hH71.2.trans gg78⟩ (fun hH77 => ?_)
  clear hK K
  (try simp only [Act.put, List.setIfInBounds_toArray, List.set_cons_zero, List.set_cons_succ])
  have bS_80 := gg78.keepH bS_74
  clear bS_74
  have d1_81 := d1_75.gr gg78
  clear d1_75
  have d2_82 := d2_73.gr gg78
  clear d2_73
  refine wpAnyH_ready (rs := [12]) (by kernel_rfl) (by simp) ?_
  refine AllReadyH.cons (o := _) rfl (fun K hK => ?_) AllReadyH.nil
  obtain ⟨t0', t1', t2'⟩ := cells_ofT bS_80
  obtain ⟨u0', u1', u2'⟩ := open_ofT bS_80
  go_simp
  refine hK.out _ _ ⟨⟨set3_far (Nat.ne_of_gt (Nat.lt_of_lt_of_le hbZ lbS64)) hH77.1.1, set3_far (Nat.ne_of_gt (Nat.lt_of_lt_of_le hbZ lbS64)) hH77.1.2.1, set3_far (Nat.ne_of_gt (Nat.lt_of_lt_of_le hbZ lbS64)) hH77.1.2.2.1, set3_far (Nat.ne_of_gt (Nat.lt_of_lt_of_le hbZ lbS64)) hH77.1.2.2.2.1, set3_far (Nat.ne_of_gt (Nat.lt_of_lt_of_le hbZ lbS64)) hH77.1.2.2.2.2.1, set3_far (Nat.ne_of_gt (Nat.lt_of_lt_of_le hbZ lbS64)) hH77.1.2.2.2.2.2.1, set3_far (Nat.ne_of_gt (Nat.lt_of_lt_of_le hbW lbS64)) hH77.1.2.2.2.2.2.2.1, set3_far (Nat.ne_of_gt (Nat.lt_of_lt_of_le hbW lbS64)) hH77.1.2.2.2.2.2.2.2.1, set3_far (Nat.ne_of_gt (Nat.lt_of_lt_of_le hbW lbS64)) hH77.1.2.2.2.2.2.2.2.2.1, set3_far (Nat.ne_of_gt (Nat.lt_of_lt_of_le hbW lbS64)) hH77.1.2.2.2.2.2.2.2.2.2.1, set3_far (Nat.ne_of_gt (Nat.lt_of_lt_of_le hbW lbS64)) hH77.1.2.2.2.2.2.2.2.2.2.2.1, set3_far (Nat.ne_of_gt (Nat.lt_of_lt_of_le hbW lbS64)) hH77.1.2.2.2.2.2.2.2.2.2.2.2⟩, (((hH77.2.setCell (p := ⟨_, 0, none⟩) lbS64 _).setCell (p := ⟨_, 1, none⟩) lbS64 _).setCell (p := ⟨_, 2, none⟩) lbS64 _)⟩ (fun hS83 => ?_)
  clear hK K t0' t1' t2' u0' u1' u2'
  (try simp only [Act.put, List.setIfInBounds_toArray, List.set_cons_zero, List.set_cons_succ])
  refine wpAnyH_done (by kernel_rfl) ?_ _
  exact ⟨_, _, _, _, _, _, _, _, _, _, _, _, _, _, _, _, _, rfl, put_block bS_80 _ _ _, d3_79.put bS_80 _ _ _, lbS64, hS83.2⟩
def R188_2 (t0 t1 t2 t5 t6 t7 t8 t9 t10 t11 t12 t13 t14 t15 t16 t17 t18 t19 t20 t21 t22 t23 t24 t25 t26 t27 t28 t29 t30 t31 t32 t33 t34 t35 t36 t37 t38 t39 : Value) (bZ bW : Nat) (s1 : Bool) (a1 : Option Addr) (n1 c1 : Nat) (e1 : Int) (s2 : Bool) (a2 : Option Addr) (n2 c2 : Nat) (e2 : Int) (s3 : Bool) (a3 : Option Addr) (n3 c3 : Nat) (e3 : Int) (s4 : Bool) (a4 : Option Addr) (n4 c4 : Nat) (e4 : Int) (V1 V2 V3 : Int) (L : Nat) (wq : World) : Exit → Act → World → Prop
  | .normal, a, w => ∃ u20 u21 u22 u23 u24 u25 u26 u27 u28 u29 u30 bS s7 a7 n7 c7 e7, a = { tmps := #[t0, t1, t2, .pointer (some ⟨bZ, 0, none⟩), .pointer (some ⟨bW, 0, none⟩), t5, t6, t7, .pointer (some ⟨bS, 0, none⟩), t9, t10, t11, t12, t13, t14, t15, t16, t17, t18, t19, u20, u21, u22, u23, u24, u25, u26, u27, u28, u29, u30, t31, t32, t33, t34, t35, t36, t37, t38, t39], defers := [] } ∧ w.heap[bS]? = some (.cells #[.bool s7, .slice a7 n7 c7, .int .i64 e7] 84) ∧ Nu w s7 a7 n7 c7 e7 V3 (8 * L + 1) ∧ wq.heap.size ≤ bS ∧ Gr wq w
  | _, _, _ => False
set_option maxRecDepth 100000 in
set_option maxHeartbeats 8000000 in
theorem reg188_2 (t0 t1 t2 t5 t6 t7 t8 t9 t10 t11 t12 t13 t14 t15 t16 t17 t18 t19 t20 t21 t22 t23 t24 t25 t26 t27 t28 t29 t30 t31 t32 t33 t34 t35 t36 t37 t38 t39 : Value) (bZ bW : Nat) (s1 : Bool) (a1 : Option Addr) (n1 c1 : Nat) (e1 : Int) (s2 : Bool) (a2 : Option Addr) (n2 c2 : Nat) (e2 : Int) (s3 : Bool) (a3 : Option Addr) (n3 c3 : Nat) (e3 : Int) (s4 : Bool) (a4 : Option Addr) (n4 c4 : Nat) (e4 : Int) (V1 V2 V3 : Int) (L : Nat) (wq : World)
    (T1 : Hid (∀ w1, Gr wq w1 → Calls Tryz.prog 190 #[.agg #[.bool s1, .slice a1 n1 c1, .int .i64 e1], .agg #[.bool s4, .slice a4 n4 c4, .int .i64 e4]] w1 fun r w' => NuA w' r V1 (2 * L) ∧ Gr w1 w'))
    (T2 : Hid (∀ w1, Gr wq w1 → Calls Tryz.prog 190 #[.agg #[.bool s2, .slice a2 n2 c2, .int .i64 e2], .agg #[.bool s3, .slice a3 n3 c3, .int .i64 e3]] w1 fun r w' => NuA w' r V2 (2 * L) ∧ Gr w1 w'))
    (T3 : Hid (∀ w1 s5 a5 n5 c5 e5 s6 a6 n6 c6 e6, Gr wq w1 → Nu w1 s5 a5 n5 c5 e5 V1 (2 * L) → Nu w1 s6 a6 n6 c6 e6 V2 (2 * L) → Calls Tryz.prog 63 #[.agg #[.bool s5, .slice a5 n5 c5, .int .i64 e5], .agg #[.bool s6, .slice a6 n6 c6, .int .i64 e6]] w1 fun r w' => NuA w' r V3 (8 * L + 1) ∧ Gr w1 w'))
    (hbZ : bZ < wq.heap.size) (hbW : bW < wq.heap.size) (hcs : (wq.cell? ⟨bZ, 0, none⟩ = some (.bool s1) ∧ wq.cell? ⟨bZ, 1, none⟩ = some (.slice a1 n1 c1) ∧ wq.cell? ⟨bZ, 2, none⟩ = some (.int .i64 e1) ∧ wq.cell? ⟨bZ, 3, none⟩ = some (.bool s2) ∧ wq.cell? ⟨bZ, 4, none⟩ = some (.slice a2 n2 c2) ∧ wq.cell? ⟨bZ, 5, none⟩ = some (.int .i64 e2) ∧ wq.cell? ⟨bW, 0, none⟩ = some (.bool s3) ∧ wq.cell? ⟨bW, 1, none⟩ = some (.slice a3 n3 c3) ∧ wq.cell? ⟨bW, 2, none⟩ = some (.int .i64 e3) ∧ wq.cell? ⟨bW, 3, none⟩ = some (.bool s4) ∧ wq.cell? ⟨bW, 4, none⟩ = some (.slice a4 n4 c4) ∧ wq.cell? ⟨bW, 5, none⟩ = some (.int .i64 e4))) :
    Code.wp Tryz.prog (Code.region 2 #[{ dst := some 20, op := Op.fieldAddr 213 (Operand.tmp 3) 0, type := 0, pos := "ref.go:47", after := #[], guard := none }, { dst := some 21, op := Op.load 84 (Operand.tmp 20), type := 84, pos := "ref.go:47", after := #[{ on := 0, ground := Ground.data }], guard := none }, { dst := some 22, op := Op.fieldAddr 213 (Operand.tmp 4) 1, type := 0, pos := "ref.go:47", after := #[], guard := none }, { dst := some 23, op := Op.load 84 (Operand.tmp 22), type := 84, pos := "ref.go:47", after := #[{ on := 2, ground := Ground.data }], guard := none }, { dst := some 24, op := Op.call { callee := Callee.value (Operand.func 190), args := #[Operand.tmp 21, Operand.tmp 23], argTypes := #[84, 84] }, type := 84, pos := "ref.go:47", after := #[{ on := 1, ground := Ground.data }, { on := 3, ground := Ground.data }], guard := none }, { dst := some 25, op := Op.fieldAddr 213 (Operand.tmp 3) 1, type := 0, pos := "ref.go:47", after := #[], guard := none }, { dst := some 26, op := Op.load 84 (Operand.tmp 25), type := 84, pos := "ref.go:47", after := #[{ on := 5, ground := Ground.data }], guard := none }, { dst := some 27, op := Op.fieldAddr 213 (Operand.tmp 4) 0, type := 0, pos := "ref.go:47", after := #[], guard := none }, { dst := some 28, op := Op.load 84 (Operand.tmp 27), type := 84, pos := "ref.go:47", after := #[{ on := 7, ground := Ground.data }], guard := none }, { dst := some 29, op := Op.call { callee := Callee.value (Operand.func 190), args := #[Operand.tmp 26, Operand.tmp 28], argTypes := #[84, 84] }, type := 84, pos := "ref.go:47", after := #[{ on := 6, ground := Ground.data }, { on := 8, ground := Ground.data }, { on := 4, ground := Ground.chain }], guard := none }, { dst := some 30, op := Op.call { callee := Callee.value (Operand.func 63), args := #[Operand.tmp 24, Operand.tmp 29], argTypes := #[84, 84] }, type := 84, pos := "ref.go:47", after := #[{ on := 4, ground := Ground.data }, { on := 9, ground := Ground.data }, { on := 9, ground := Ground.chain }], guard := none }, { dst := some 8, op := Op.alloc 84, type := 0, pos := "ref.go:47", after := #[], guard := none }, { dst := none, op := Op.store 84 (Operand.tmp 8) (Operand.tmp 30), type := 0, pos := "ref.go:47", after := #[{ on := 11, ground := Ground.data }, { on := 10, ground := Ground.data }, { on := 10, ground := Ground.chain }, { on := 0, ground := Ground.phase }, { on := 1, ground := Ground.phase }, { on := 2, ground := Ground.phase }, { on := 3, ground := Ground.phase }, { on := 4, ground := Ground.phase }, { on := 5, ground := Ground.phase }, { on := 6, ground := Ground.phase }, { on := 7, ground := Ground.phase }, { on := 8, ground := Ground.phase }, { on := 9, ground := Ground.phase }, { on := 10, ground := Ground.phase }, { on := 11, ground := Ground.phase }], guard := none }] true) (R188_2 t0 t1 t2 t5 t6 t7 t8 t9 t10 t11 t12 t13 t14 t15 t16 t17 t18 t19 t20 t21 t22 t23 t24 t25 t26 t27 t28 t29 t30 t31 t32 t33 t34 t35 t36 t37 t38 t39 bZ bW s1 a1 n1 c1 e1 s2 a2 n2 c2 e2 s3 a3 n3 c3 e3 s4 a4 n4 c4 e4 V1 V2 V3 L wq) { tmps := #[t0, t1, t2, .pointer (some ⟨bZ, 0, none⟩), .pointer (some ⟨bW, 0, none⟩), t5, t6, t7, t8, t9, t10, t11, t12, t13, t14, t15, t16, t17, t18, t19, t20, t21, t22, t23, t24, t25, t26, t27, t28, t29, t30, t31, t32, t33, t34, t35, t36, t37, t38, t39], defers := [] } wq := by
  have hS0 : (wq.drew.cell? ⟨bZ, 0, none⟩ = some (.bool s1) ∧ wq.drew.cell? ⟨bZ, 1, none⟩ = some (.slice a1 n1 c1) ∧ wq.drew.cell? ⟨bZ, 2, none⟩ = some (.int .i64 e1) ∧ wq.drew.cell? ⟨bZ, 3, none⟩ = some (.bool s2) ∧ wq.drew.cell? ⟨bZ, 4, none⟩ = some (.slice a2 n2 c2) ∧ wq.drew.cell? ⟨bZ, 5, none⟩ = some (.int .i64 e2) ∧ wq.drew.cell? ⟨bW, 0, none⟩ = some (.bool s3) ∧ wq.drew.cell? ⟨bW, 1, none⟩ = some (.slice a3 n3 c3) ∧ wq.drew.cell? ⟨bW, 2, none⟩ = some (.int .i64 e3) ∧ wq.drew.cell? ⟨bW, 3, none⟩ = some (.bool s4) ∧ wq.drew.cell? ⟨bW, 4, none⟩ = some (.slice a4 n4 c4) ∧ wq.drew.cell? ⟨bW, 5, none⟩ = some (.int .i64 e4)) ∧ Gr wq wq.drew := ⟨hcs, (Gr.refl wq).drew⟩
  clear hcs
  refine wp_region_held_drew (S := fun w' => (w'.cell? ⟨bZ, 0, none⟩ = some (.bool s1) ∧ w'.cell? ⟨bZ, 1, none⟩ = some (.slice a1 n1 c1) ∧ w'.cell? ⟨bZ, 2, none⟩ = some (.int .i64 e1) ∧ w'.cell? ⟨bZ, 3, none⟩ = some (.bool s2) ∧ w'.cell? ⟨bZ, 4, none⟩ = some (.slice a2 n2 c2) ∧ w'.cell? ⟨bZ, 5, none⟩ = some (.int .i64 e2) ∧ w'.cell? ⟨bW, 0, none⟩ = some (.bool s3) ∧ w'.cell? ⟨bW, 1, none⟩ = some (.slice a3 n3 c3) ∧ w'.cell? ⟨bW, 2, none⟩ = some (.int .i64 e3) ∧ w'.cell? ⟨bW, 3, none⟩ = some (.bool s4) ∧ w'.cell? ⟨bW, 4, none⟩ = some (.slice a4 n4 c4) ∧ w'.cell? ⟨bW, 5, none⟩ = some (.int .i64 e4)) ∧ Gr wq w') (by kernel_rfl) hS0 (fun hHeld => ?_)
  clear hS0
  generalize wq.drew = wd at *
  refine wpAnyH_take (i := 0) (oi := _) (v := ?_) rfl (by kernel_rfl) (by kernel_rfl) (by kernel_rfl) (fun _ _ _ h => h) (Or.inl ⟨by rfl, ?_⟩) (by with_reducible assumption) ?_
  rotate_left
  · intro w hSw
    (try dsimp only at hSw)
    first | (go_simp; done) | (go_simp; with_reducible rfl)
  (try simp only [Act.put, List.setIfInBounds_toArray, List.set_cons_zero, List.set_cons_succ])
  refine wpAnyH_take (i := 1) (oi := _) (v := ?_) rfl (by kernel_rfl) (by kernel_rfl) (by kernel_rfl) (fun _ _ _ h => h) (Or.inl ⟨by rfl, ?_⟩) (by with_reducible assumption) ?_
  rotate_left
  · intro w hSw
    (try dsimp only at hSw)
    first | (go_simp; done) | (go_simp; with_reducible rfl)
  (try simp only [Act.put, List.setIfInBounds_toArray, List.set_cons_zero, List.set_cons_succ])
  refine wpAnyH_take (i := 2) (oi := _) (v := ?_) rfl (by kernel_rfl) (by kernel_rfl) (by kernel_rfl) (fun _ _ _ h => h) (Or.inl ⟨by rfl, ?_⟩) (by with_reducible assumption) ?_
  rotate_left
  · intro w hSw
    (try dsimp only at hSw)
    first | (go_simp; done) | (go_simp; with_reducible rfl)
  (try simp only [Act.put, List.setIfInBounds_toArray, List.set_cons_zero, List.set_cons_succ])
  refine wpAnyH_take (i := 3) (oi := _) (v := ?_) rfl (by kernel_rfl) (by kernel_rfl) (by kernel_rfl) (fun _ _ _ h => h) (Or.inl ⟨by rfl, ?_⟩) (by with_reducible assumption) ?_
  rotate_left
  · intro w hSw
    (try dsimp only at hSw)
    first | (go_simp; done) | (go_simp; with_reducible rfl)
  (try simp only [Act.put, List.setIfInBounds_toArray, List.set_cons_zero, List.set_cons_succ])
  refine wpAnyH_take (i := 5) (oi := _) (v := ?_) rfl (by kernel_rfl) (by kernel_rfl) (by kernel_rfl) (fun _ _ _ h => h) (Or.inl ⟨by rfl, ?_⟩) (by with_reducible assumption) ?_
  rotate_left
  · intro w hSw
    (try dsimp only at hSw)
    first | (go_simp; done) | (go_simp; with_reducible rfl)
  (try simp only [Act.put, List.setIfInBounds_toArray, List.set_cons_zero, List.set_cons_succ])
  refine wpAnyH_take (i := 6) (oi := _) (v := ?_) rfl (by kernel_rfl) (by kernel_rfl) (by kernel_rfl) (fun _ _ _ h => h) (Or.inl ⟨by rfl, ?_⟩) (by with_reducible assumption) ?_
  rotate_left
  · intro w hSw
    (try dsimp only at hSw)
    first | (go_simp; done) | (go_simp; with_reducible rfl)
  (try simp only [Act.put, List.setIfInBounds_toArray, List.set_cons_zero, List.set_cons_succ])
  refine wpAnyH_take (i := 7) (oi := _) (v := ?_) rfl (by kernel_rfl) (by kernel_rfl) (by kernel_rfl) (fun _ _ _ h => h) (Or.inl ⟨by rfl, ?_⟩) (by with_reducible assumption) ?_
  rotate_left
  · intro w hSw
    (try dsimp only at hSw)
    first | (go_simp; done) | (go_simp; with_reducible rfl)
  (try simp only [Act.put, List.setIfInBounds_toArray, List.set_cons_zero, List.set_cons_succ])
  refine wpAnyH_take (i := 8) (oi := _) (v := ?_) rfl (by kernel_rfl) (by kernel_rfl) (by kernel_rfl) (fun _ _ _ h => h) (Or.inl ⟨by rfl, ?_⟩) (by with_reducible assumption) ?_
  rotate_left
  · intro w hSw
    (try dsimp only at hSw)
    first | (go_simp; done) | (go_simp; with_reducible rfl)
  (try simp only [Act.put, List.setIfInBounds_toArray, List.set_cons_zero, List.set_cons_succ])
  refine wpAnyH_ready (rs := [4, 11]) (by kernel_rfl) (by simp) ?_
  refine AllReadyH.cons (o := _) rfl (fun K hK => ?_) ?_
  · go_simp
    with_reducible refine (T1.out _ hHeld.2).mono ?_
    rintro r wc1 ⟨⟨s5, a5, n5, c5, e5, rfl, d1_4⟩, gg3⟩
    refine hK.out _ _ ⟨⟨gg3.keep hHeld.1.1, gg3.keep hHeld.1.2.1, gg3.keep hHeld.1.2.2.1, gg3.keep hHeld.1.2.2.2.1, gg3.keep hHeld.1.2.2.2.2.1, gg3.keep hHeld.1.2.2.2.2.2.1, gg3.keep hHeld.1.2.2.2.2.2.2.1, gg3.keep hHeld.1.2.2.2.2.2.2.2.1, gg3.keep hHeld.1.2.2.2.2.2.2.2.2.1, gg3.keep hHeld.1.2.2.2.2.2.2.2.2.2.1, gg3.keep hHeld.1.2.2.2.2.2.2.2.2.2.2.1, gg3.keep hHeld.1.2.2.2.2.2.2.2.2.2.2.2⟩, hHeld.2.trans gg3⟩ (fun hH2 => ?_)
    clear hK K
    (try simp only [Act.put, List.setIfInBounds_toArray, List.set_cons_zero, List.set_cons_succ])
    refine wpAnyH_ready (rs := [9, 11]) (by kernel_rfl) (by simp) ?_
    refine AllReadyH.cons (o := _) rfl (fun K hK => ?_) ?_
    · go_simp
      with_reducible refine (T2.out _ hH2.2).mono ?_
      rintro r wc5 ⟨⟨s6, a6, n6, c6, e6, rfl, d2_8⟩, gg7⟩
      refine hK.out _ _ ⟨⟨gg7.keep hH2.1.1, gg7.keep hH2.1.2.1, gg7.keep hH2.1.2.2.1, gg7.keep hH2.1.2.2.2.1, gg7.keep hH2.1.2.2.2.2.1, gg7.keep hH2.1.2.2.2.2.2.1, gg7.keep hH2.1.2.2.2.2.2.2.1, gg7.keep hH2.1.2.2.2.2.2.2.2.1, gg7.keep hH2.1.2.2.2.2.2.2.2.2.1, gg7.keep hH2.1.2.2.2.2.2.2.2.2.2.1, gg7.keep hH2.1.2.2.2.2.2.2.2.2.2.2.1, gg7.keep hH2.1.2.2.2.2.2.2.2.2.2.2.2⟩, hH2.2.trans gg7⟩ (fun hH6 => ?_)
      clear hK K
      (try simp only [Act.put, List.setIfInBounds_toArray, List.set_cons_zero, List.set_cons_succ])
      have d1_9 := d1_4.gr gg7
      clear d1_4
      refine wpAnyH_ready (rs := [10, 11]) (by kernel_rfl) (by simp) ?_
      refine AllReadyH.cons (o := _) rfl (fun K hK => ?_) ?_
      · go_simp
        with_reducible refine (T3.out _ _ _ _ _ _ _ _ _ _ _ hH6.2 d1_9 d2_8).mono ?_
        rintro r wc10 ⟨⟨s7, a7, n7, c7, e7, rfl, d3_13⟩, gg12⟩
        refine hK.out _ _ ⟨⟨gg12.keep hH6.1.1, gg12.keep hH6.1.2.1, gg12.keep hH6.1.2.2.1, gg12.keep hH6.1.2.2.2.1, gg12.keep hH6.1.2.2.2.2.1, gg12.keep hH6.1.2.2.2.2.2.1, gg12.keep hH6.1.2.2.2.2.2.2.1, gg12.keep hH6.1.2.2.2.2.2.2.2.1, gg12.keep hH6.1.2.2.2.2.2.2.2.2.1, gg12.keep hH6.1.2.2.2.2.2.2.2.2.2.1, gg12.keep hH6.1.2.2.2.2.2.2.2.2.2.2.1, gg12.keep hH6.1.2.2.2.2.2.2.2.2.2.2.2⟩, hH6.2.trans gg12⟩ (fun hH11 => ?_)
        clear hK K
        (try simp only [Act.put, List.setIfInBounds_toArray, List.set_cons_zero, List.set_cons_succ])
        have d1_14 := d1_9.gr gg12
        clear d1_9
        have d2_15 := d2_8.gr gg12
        clear d2_8
        refine wpAnyH_ready (rs := [11]) (by kernel_rfl) (by simp) ?_
        refine AllReadyH.cons (o := _) rfl (fun K hK => ?_) AllReadyH.nil
        go_simp
        refine hK.out _ _ ⟨⟨((Gr.refl wc10).alloc (.cells #[.bool false, .slice none 0 0, .int .i64 0] 84)).keep hH11.1.1, ((Gr.refl wc10).alloc (.cells #[.bool false, .slice none 0 0, .int .i64 0] 84)).keep hH11.1.2.1, ((Gr.refl wc10).alloc (.cells #[.bool false, .slice none 0 0, .int .i64 0] 84)).keep hH11.1.2.2.1, ((Gr.refl wc10).alloc (.cells #[.bool false, .slice none 0 0, .int .i64 0] 84)).keep hH11.1.2.2.2.1, ((Gr.refl wc10).alloc (.cells #[.bool false, .slice none 0 0, .int .i64 0] 84)).keep hH11.1.2.2.2.2.1, ((Gr.refl wc10).alloc (.cells #[.bool false, .slice none 0 0, .int .i64 0] 84)).keep hH11.1.2.2.2.2.2.1, ((Gr.refl wc10).alloc (.cells #[.bool false, .slice none 0 0, .int .i64 0] 84)).keep hH11.1.2.2.2.2.2.2.1, ((Gr.refl wc10).alloc (.cells #[.bool false, .slice none 0 0, .int .i64 0] 84)).keep hH11.1.2.2.2.2.2.2.2.1, ((Gr.refl wc10).alloc (.cells #[.bool false, .slice none 0 0, .int .i64 0] 84)).keep hH11.1.2.2.2.2.2.2.2.2.1, ((Gr.refl wc10).alloc (.cells #[.bool false, .slice none 0 0, .int .i64 0] 84)).keep hH11.1.2.2.2.2.2.2.2.2.2.1, ((Gr.refl wc10).alloc (.cells #[.bool false, .slice none 0 0, .int .i64 0] 84)).keep hH11.1.2.2.2.2.2.2.2.2.2.2.1, ((Gr.refl wc10).alloc (.cells #[.bool false, .slice none 0 0, .int .i64 0] 84)).keep hH11.1.2.2.2.2.2.2.2.2.2.2.2⟩, hH11.2.trans ((Gr.refl wc10).alloc (.cells #[.bool false, .slice none 0 0, .int .i64 0] 84))⟩ (fun hH17 => ?_)
        clear hK K
        (try simp only [Act.put, List.setIfInBounds_toArray, List.set_cons_zero, List.set_cons_succ])
        have bS_19 := new_at wc10 (.cells #[.bool false, .slice none 0 0, .int .i64 0] 84)
        have gg18 := (Gr.refl wc10).alloc (.cells #[.bool false, .slice none 0 0, .int .i64 0] 84)
        have lbS20 := hH11.2.size
        have d1_21 := d1_14.gr gg18
        clear d1_14
        have d2_22 := d2_15.gr gg18
        clear d2_15
        have d3_23 := d3_13.gr gg18
        clear d3_13
        generalize wc10.alloc (.cells #[.bool false, .slice none 0 0, .int .i64 0] 84) = wa16 at *
        refine wpAnyH_ready (rs := [12]) (by kernel_rfl) (by simp) ?_
        refine AllReadyH.cons (o := _) rfl (fun K hK => ?_) AllReadyH.nil
        obtain ⟨t0', t1', t2'⟩ := cells_ofT bS_19
        obtain ⟨u0', u1', u2'⟩ := open_ofT bS_19
        go_simp
        refine hK.out _ _ ⟨⟨set3_far (Nat.ne_of_gt (Nat.lt_of_lt_of_le hbZ lbS20)) hH17.1.1, set3_far (Nat.ne_of_gt (Nat.lt_of_lt_of_le hbZ lbS20)) hH17.1.2.1, set3_far (Nat.ne_of_gt (Nat.lt_of_lt_of_le hbZ lbS20)) hH17.1.2.2.1, set3_far (Nat.ne_of_gt (Nat.lt_of_lt_of_le hbZ lbS20)) hH17.1.2.2.2.1, set3_far (Nat.ne_of_gt (Nat.lt_of_lt_of_le hbZ lbS20)) hH17.1.2.2.2.2.1, set3_far (Nat.ne_of_gt (Nat.lt_of_lt_of_le hbZ lbS20)) hH17.1.2.2.2.2.2.1, set3_far (Nat.ne_of_gt (Nat.lt_of_lt_of_le hbW lbS20)) hH17.1.2.2.2.2.2.2.1, set3_far (Nat.ne_of_gt (Nat.lt_of_lt_of_le hbW lbS20)) hH17.1.2.2.2.2.2.2.2.1, set3_far (Nat.ne_of_gt (Nat.lt_of_lt_of_le hbW lbS20)) hH17.1.2.2.2.2.2.2.2.2.1, set3_far (Nat.ne_of_gt (Nat.lt_of_lt_of_le hbW lbS20)) hH17.1.2.2.2.2.2.2.2.2.2.1, set3_far (Nat.ne_of_gt (Nat.lt_of_lt_of_le hbW lbS20)) hH17.1.2.2.2.2.2.2.2.2.2.2.1, set3_far (Nat.ne_of_gt (Nat.lt_of_lt_of_le hbW lbS20)) hH17.1.2.2.2.2.2.2.2.2.2.2.2⟩, (((hH17.2.setCell (p := ⟨_, 0, none⟩) lbS20 _).setCell (p := ⟨_, 1, none⟩) lbS20 _).setCell (p := ⟨_, 2, none⟩) lbS20 _)⟩ (fun hS24 => ?_)
        clear hK K t0' t1' t2' u0' u1' u2'
        (try simp only [Act.put, List.setIfInBounds_toArray, List.set_cons_zero, List.set_cons_succ])
        refine wpAnyH_done (by kernel_rfl) ?_ _
        exact ⟨_, _, _, _, _, _, _, _, _, _, _, _, _, _, _, _, _, rfl, put_block bS_19 _ _ _, d3_23.put bS_19 _ _ _, lbS20, hS24.2⟩
      refine AllReadyH.cons (o := _) rfl (fun K hK => ?_) AllReadyH.nil
      go_simp
      refine hK.out _ _ ⟨⟨((Gr.refl wc5).alloc (.cells #[.bool false, .slice none 0 0, .int .i64 0] 84)).keep hH6.1.1, ((Gr.refl wc5).alloc (.cells #[.bool false, .slice none 0 0, .int .i64 0] 84)).keep hH6.1.2.1, ((Gr.refl wc5).alloc (.cells #[.bool false, .slice none 0 0, .int .i64 0] 84)).keep hH6.1.2.2.1, ((Gr.refl wc5).alloc (.cells #[.bool false, .slice none 0 0, .int .i64 0] 84)).keep hH6.1.2.2.2.1, ((Gr.refl wc5).alloc (.cells #[.bool false, .slice none 0 0, .int .i64 0] 84)).keep hH6.1.2.2.2.2.1, ((Gr.refl wc5).alloc (.cells #[.bool false, .slice none 0 0, .int .i64 0] 84)).keep hH6.1.2.2.2.2.2.1, ((Gr.refl wc5).alloc (.cells #[.bool false, .slice none 0 0, .int .i64 0] 84)).keep hH6.1.2.2.2.2.2.2.1, ((Gr.refl wc5).alloc (.cells #[.bool false, .slice none 0 0, .int .i64 0] 84)).keep hH6.1.2.2.2.2.2.2.2.1, ((Gr.refl wc5).alloc (.cells #[.bool false, .slice none 0 0, .int .i64 0] 84)).keep hH6.1.2.2.2.2.2.2.2.2.1, ((Gr.refl wc5).alloc (.cells #[.bool false, .slice none 0 0, .int .i64 0] 84)).keep hH6.1.2.2.2.2.2.2.2.2.2.1, ((Gr.refl wc5).alloc (.cells #[.bool false, .slice none 0 0, .int .i64 0] 84)).keep hH6.1.2.2.2.2.2.2.2.2.2.2.1, ((Gr.refl wc5).alloc (.cells #[.bool false, .slice none 0 0, .int .i64 0] 84)).keep hH6.1.2.2.2.2.2.2.2.2.2.2.2⟩, hH6.2.trans ((Gr.refl wc5).alloc (.cells #[.bool false, .slice none 0 0, .int .i64 0] 84))⟩ (fun hH26 => ?_)
      clear hK K
      (try simp only [Act.put, List.setIfInBounds_toArray, List.set_cons_zero, List.set_cons_succ])
      have bS_28 := new_at wc5 (.cells #[.bool false, .slice none 0 0, .int .i64 0] 84)
      have gg27 := (Gr.refl wc5).alloc (.cells #[.bool false, .slice none 0 0, .int .i64 0] 84)
      have lbS29 := hH6.2.size
      have d1_30 := d1_9.gr gg27
      clear d1_9
      have d2_31 := d2_8.gr gg27
      clear d2_8
      generalize wc5.alloc (.cells #[.bool false, .slice none 0 0, .int .i64 0] 84) = wa25 at *
      refine wpAnyH_ready (rs := [10]) (by kernel_rfl) (by simp) ?_
      refine AllReadyH.cons (o := _) rfl (fun K hK => ?_) AllReadyH.nil
      go_simp
      with_reducible refine (T3.out _ _ _ _ _ _ _ _ _ _ _ hH26.2 d1_30 d2_31).mono ?_
      rintro r wc32 ⟨⟨s7, a7, n7, c7, e7, rfl, d3_35⟩, gg34⟩
      refine hK.out _ _ ⟨⟨gg34.keep hH26.1.1, gg34.keep hH26.1.2.1, gg34.keep hH26.1.2.2.1, gg34.keep hH26.1.2.2.2.1, gg34.keep hH26.1.2.2.2.2.1, gg34.keep hH26.1.2.2.2.2.2.1, gg34.keep hH26.1.2.2.2.2.2.2.1, gg34.keep hH26.1.2.2.2.2.2.2.2.1, gg34.keep hH26.1.2.2.2.2.2.2.2.2.1, gg34.keep hH26.1.2.2.2.2.2.2.2.2.2.1, gg34.keep hH26.1.2.2.2.2.2.2.2.2.2.2.1, gg34.keep hH26.1.2.2.2.2.2.2.2.2.2.2.2⟩, hH26.2.trans gg34⟩ (fun hH33 => ?_)
      clear hK K
      (try simp only [Act.put, List.setIfInBounds_toArray, List.set_cons_zero, List.set_cons_succ])
      have d1_36 := d1_30.gr gg34
      clear d1_30
      have d2_37 := d2_31.gr gg34
      clear d2_31
      have bS_38 := gg34.keepH bS_28
      clear bS_28
      refine wpAnyH_ready (rs := [12]) (by kernel_rfl) (by simp) ?_
      refine AllReadyH.cons (o := _) rfl (fun K hK => ?_) AllReadyH.nil
      obtain ⟨t0', t1', t2'⟩ := cells_ofT bS_38
      obtain ⟨u0', u1', u2'⟩ := open_ofT bS_38
      go_simp
      refine hK.out _ _ ⟨⟨set3_far (Nat.ne_of_gt (Nat.lt_of_lt_of_le hbZ lbS29)) hH33.1.1, set3_far (Nat.ne_of_gt (Nat.lt_of_lt_of_le hbZ lbS29)) hH33.1.2.1, set3_far (Nat.ne_of_gt (Nat.lt_of_lt_of_le hbZ lbS29)) hH33.1.2.2.1, set3_far (Nat.ne_of_gt (Nat.lt_of_lt_of_le hbZ lbS29)) hH33.1.2.2.2.1, set3_far (Nat.ne_of_gt (Nat.lt_of_lt_of_le hbZ lbS29)) hH33.1.2.2.2.2.1, set3_far (Nat.ne_of_gt (Nat.lt_of_lt_of_le hbZ lbS29)) hH33.1.2.2.2.2.2.1, set3_far (Nat.ne_of_gt (Nat.lt_of_lt_of_le hbW lbS29)) hH33.1.2.2.2.2.2.2.1, set3_far (Nat.ne_of_gt (Nat.lt_of_lt_of_le hbW lbS29)) hH33.1.2.2.2.2.2.2.2.1, set3_far (Nat.ne_of_gt (Nat.lt_of_lt_of_le hbW lbS29)) hH33.1.2.2.2.2.2.2.2.2.1, set3_far (Nat.ne_of_gt (Nat.lt_of_lt_of_le hbW lbS29)) hH33.1.2.2.2.2.2.2.2.2.2.1, set3_far (Nat.ne_of_gt (Nat.lt_of_lt_of_le hbW lbS29)) hH33.1.2.2.2.2.2.2.2.2.2.2.1, set3_far (Nat.ne_of_gt (Nat.lt_of_lt_of_le hbW lbS29)) hH33.1.2.2.2.2.2.2.2.2.2.2.2⟩, (((hH33.2.setCell (p := ⟨_, 0, none⟩) lbS29 _).setCell (p := ⟨_, 1, none⟩) lbS29 _).setCell (p := ⟨_, 2, none⟩) lbS29 _)⟩ (fun hS39 => ?_)
      clear hK K t0' t1' t2' u0' u1' u2'
      (try simp only [Act.put, List.setIfInBounds_toArray, List.set_cons_zero, List.set_cons_succ])
      refine wpAnyH_done (by kernel_rfl) ?_ _
      exact ⟨_, _, _, _, _, _, _, _, _, _, _, _, _, _, _, _, _, rfl, put_block bS_38 _ _ _, d3_35.put bS_38 _ _ _, lbS29, hS39.2⟩
    refine AllReadyH.cons (o := _) rfl (fun K hK => ?_) AllReadyH.nil
    go_simp
    refine hK.out _ _ ⟨⟨((Gr.refl wc1).alloc (.cells #[.bool false, .slice none 0 0, .int .i64 0] 84)).keep hH2.1.1, ((Gr.refl wc1).alloc (.cells #[.bool false, .slice none 0 0, .int .i64 0] 84)).keep hH2.1.2.1, ((Gr.refl wc1).alloc (.cells #[.bool false, .slice none 0 0, .int .i64 0] 84)).keep hH2.1.2.2.1, ((Gr.refl wc1).alloc (.cells #[.bool false, .slice none 0 0, .int .i64 0] 84)).keep hH2.1.2.2.2.1, ((Gr.refl wc1).alloc (.cells #[.bool false, .slice none 0 0, .int .i64 0] 84)).keep hH2.1.2.2.2.2.1, ((Gr.refl wc1).alloc (.cells #[.bool false, .slice none 0 0, .int .i64 0] 84)).keep hH2.1.2.2.2.2.2.1, ((Gr.refl wc1).alloc (.cells #[.bool false, .slice none 0 0, .int .i64 0] 84)).keep hH2.1.2.2.2.2.2.2.1, ((Gr.refl wc1).alloc (.cells #[.bool false, .slice none 0 0, .int .i64 0] 84)).keep hH2.1.2.2.2.2.2.2.2.1, ((Gr.refl wc1).alloc (.cells #[.bool false, .slice none 0 0, .int .i64 0] 84)).keep hH2.1.2.2.2.2.2.2.2.2.1, ((Gr.refl wc1).alloc (.cells #[.bool false, .slice none 0 0, .int .i64 0] 84)).keep hH2.1.2.2.2.2.2.2.2.2.2.1, ((Gr.refl wc1).alloc (.cells #[.bool false, .slice none 0 0, .int .i64 0] 84)).keep hH2.1.2.2.2.2.2.2.2.2.2.2.1, ((Gr.refl wc1).alloc (.cells #[.bool false, .slice none 0 0, .int .i64 0] 84)).keep hH2.1.2.2.2.2.2.2.2.2.2.2.2⟩, hH2.2.trans ((Gr.refl wc1).alloc (.cells #[.bool false, .slice none 0 0, .int .i64 0] 84))⟩ (fun hH41 => ?_)
    clear hK K
    (try simp only [Act.put, List.setIfInBounds_toArray, List.set_cons_zero, List.set_cons_succ])
    have bS_43 := new_at wc1 (.cells #[.bool false, .slice none 0 0, .int .i64 0] 84)
    have gg42 := (Gr.refl wc1).alloc (.cells #[.bool false, .slice none 0 0, .int .i64 0] 84)
    have lbS44 := hH2.2.size
    have d1_45 := d1_4.gr gg42
    clear d1_4
    generalize wc1.alloc (.cells #[.bool false, .slice none 0 0, .int .i64 0] 84) = wa40 at *
    refine wpAnyH_ready (rs := [9]) (by kernel_rfl) (by simp) ?_
    refine AllReadyH.cons (o := _) rfl (fun K hK => ?_) AllReadyH.nil
    go_simp
    with_reducible refine (T2.out _ hH41.2).mono ?_
    rintro r wc46 ⟨⟨s6, a6, n6, c6, e6, rfl, d2_49⟩, gg48⟩
    refine hK.out _ _ ⟨⟨gg48.keep hH41.1.1, gg48.keep hH41.1.2.1, gg48.keep hH41.1.2.2.1, gg48.keep hH41.1.2.2.2.1, gg48.keep hH41.1.2.2.2.2.1, gg48.keep hH41.1.2.2.2.2.2.1, gg48.keep hH41.1.2.2.2.2.2.2.1, gg48.keep hH41.1.2.2.2.2.2.2.2.1, gg48.keep hH41.1.2.2.2.2.2.2.2.2.1, gg48.keep hH41.1.2.2.2.2.2.2.2.2.2.1, gg48.keep hH41.1.2.2.2.2.2.2.2.2.2.2.1, gg48.keep hH41.1.2.2.2.2.2.2.2.2.2.2.2⟩, hH41.2.trans gg48⟩ (fun hH47 => ?_)
    clear hK K
    (try simp only [Act.put, List.setIfInBounds_toArray, List.set_cons_zero, List.set_cons_succ])
    have d1_50 := d1_45.gr gg48
    clear d1_45
    have bS_51 := gg48.keepH bS_43
    clear bS_43
    refine wpAnyH_ready (rs := [10]) (by kernel_rfl) (by simp) ?_
    refine AllReadyH.cons (o := _) rfl (fun K hK => ?_) AllReadyH.nil
    go_simp
    with_reducible refine (T3.out _ _ _ _ _ _ _ _ _ _ _ hH47.2 d1_50 d2_49).mono ?_
    rintro r wc52 ⟨⟨s7, a7, n7, c7, e7, rfl, d3_55⟩, gg54⟩
    refine hK.out _ _ ⟨⟨gg54.keep hH47.1.1, gg54.keep hH47.1.2.1, gg54.keep hH47.1.2.2.1, gg54.keep hH47.1.2.2.2.1, gg54.keep hH47.1.2.2.2.2.1, gg54.keep hH47.1.2.2.2.2.2.1, gg54.keep hH47.1.2.2.2.2.2.2.1, gg54.keep hH47.1.2.2.2.2.2.2.2.1, gg54.keep hH47.1.2.2.2.2.2.2.2.2.1, gg54.keep hH47.1.2.2.2.2.2.2.2.2.2.1, gg54.keep hH47.1.2.2.2.2.2.2.2.2.2.2.1, gg54.keep hH47.1.2.2.2.2.2.2.2.2.2.2.2⟩, hH47.2.trans gg54⟩ (fun hH53 => ?_)
    clear hK K
    (try simp only [Act.put, List.setIfInBounds_toArray, List.set_cons_zero, List.set_cons_succ])
    have d1_56 := d1_50.gr gg54
    clear d1_50
    have bS_57 := gg54.keepH bS_51
    clear bS_51
    have d2_58 := d2_49.gr gg54
    clear d2_49
    refine wpAnyH_ready (rs := [12]) (by kernel_rfl) (by simp) ?_
    refine AllReadyH.cons (o := _) rfl (fun K hK => ?_) AllReadyH.nil
    obtain ⟨t0', t1', t2'⟩ := cells_ofT bS_57
    obtain ⟨u0', u1', u2'⟩ := open_ofT bS_57
    go_simp
    refine hK.out _ _ ⟨⟨set3_far (Nat.ne_of_gt (Nat.lt_of_lt_of_le hbZ lbS44)) hH53.1.1, set3_far (Nat.ne_of_gt (Nat.lt_of_lt_of_le hbZ lbS44)) hH53.1.2.1, set3_far (Nat.ne_of_gt (Nat.lt_of_lt_of_le hbZ lbS44)) hH53.1.2.2.1, set3_far (Nat.ne_of_gt (Nat.lt_of_lt_of_le hbZ lbS44)) hH53.1.2.2.2.1, set3_far (Nat.ne_of_gt (Nat.lt_of_lt_of_le hbZ lbS44)) hH53.1.2.2.2.2.1, set3_far (Nat.ne_of_gt (Nat.lt_of_lt_of_le hbZ lbS44)) hH53.1.2.2.2.2.2.1, set3_far (Nat.ne_of_gt (Nat.lt_of_lt_of_le hbW lbS44)) hH53.1.2.2.2.2.2.2.1, set3_far (Nat.ne_of_gt (Nat.lt_of_lt_of_le hbW lbS44)) hH53.1.2.2.2.2.2.2.2.1, set3_far (Nat.ne_of_gt (Nat.lt_of_lt_of_le hbW lbS44)) hH53.1.2.2.2.2.2.2.2.2.1, set3_far (Nat.ne_of_gt (Nat.lt_of_lt_of_le hbW lbS44)) hH53.1.2.2.2.2.2.2.2.2.2.1, set3_far (Nat.ne_of_gt (Nat.lt_of_lt_of_le hbW lbS44)) hH53.1.2.2.2.2.2.2.2.2.2.2.1, set3_far (Nat.ne_of_gt (Nat.lt_of_lt_of_le hbW lbS44)) hH53.1.2.2.2.2.2.2.2.2.2.2.2⟩, (((hH53.2.setCell (p := ⟨_, 0, none⟩) lbS44 _).setCell (p := ⟨_, 1, none⟩) lbS44 _).setCell (p := ⟨_, 2, none⟩) lbS44 _)⟩ (fun hS59 => ?_)
    clear hK K t0' t1' t2' u0' u1' u2'
    (try simp only [Act.put, List.setIfInBounds_toArray, List.set_cons_zero, List.set_cons_succ])
    refine wpAnyH_done (by kernel_rfl) ?_ _
    exact ⟨_, _, _, _, _, _, _, _, _, _, _, _, _, _, _, _, _, rfl, put_block bS_57 _ _ _, d3_55.put bS_57 _ _ _, lbS44, hS59.2⟩
  refine AllReadyH.cons (o := _) rfl (fun K hK => ?_) AllReadyH.nil
  go_simp
  refine hK.out _ _ ⟨⟨((Gr.refl wd).alloc (.cells #[.bool false, .slice none 0 0, .int .i64 0] 84)).keep hHeld.1.1, ((Gr.refl wd).alloc (.cells #[.bool false, .slice none 0 0, .int .i64 0] 84)).keep hHeld.1.2.1, ((Gr.refl wd).alloc (.cells #[.bool false, .slice none 0 0, .int .i64 0] 84)).keep hHeld.1.2.2.1, ((Gr.refl wd).alloc (.cells #[.bool false, .slice none 0 0, .int .i64 0] 84)).keep hHeld.1.2.2.2.1, ((Gr.refl wd).alloc (.cells #[.bool false, .slice none 0 0, .int .i64 0] 84)).keep hHeld.1.2.2.2.2.1, ((Gr.refl wd).alloc (.cells #[.bool false, .slice none 0 0, .int .i64 0] 84)).keep hHeld.1.2.2.2.2.2.1, ((Gr.refl wd).alloc (.cells #[.bool false, .slice none 0 0, .int .i64 0] 84)).keep hHeld.1.2.2.2.2.2.2.1, ((Gr.refl wd).alloc (.cells #[.bool false, .slice none 0 0, .int .i64 0] 84)).keep hHeld.1.2.2.2.2.2.2.2.1, ((Gr.refl wd).alloc (.cells #[.bool false, .slice none 0 0, .int .i64 0] 84)).keep hHeld.1.2.2.2.2.2.2.2.2.1, ((Gr.refl wd).alloc (.cells #[.bool false, .slice none 0 0, .int .i64 0] 84)).keep hHeld.1.2.2.2.2.2.2.2.2.2.1, ((Gr.refl wd).alloc (.cells #[.bool false, .slice none 0 0, .int .i64 0] 84)).keep hHeld.1.2.2.2.2.2.2.2.2.2.2.1, ((Gr.refl wd).alloc (.cells #[.bool false, .slice none 0 0, .int .i64 0] 84)).keep hHeld.1.2.2.2.2.2.2.2.2.2.2.2⟩, hHeld.2.trans ((Gr.refl wd).alloc (.cells #[.bool false, .slice none 0 0, .int .i64 0] 84))⟩ (fun hH61 => ?_)
  clear hK K
  (try simp only [Act.put, List.setIfInBounds_toArray, List.set_cons_zero, List.set_cons_succ])
  have bS_63 := new_at wd (.cells #[.bool false, .slice none 0 0, .int .i64 0] 84)
  have gg62 := (Gr.refl wd).alloc (.cells #[.bool false, .slice none 0 0, .int .i64 0] 84)
  have lbS64 := hHeld.2.size
  generalize wd.alloc (.cells #[.bool false, .slice none 0 0, .int .i64 0] 84) = wa60 at *
  refine wpAnyH_ready (rs := [4]) (by kernel_rfl) (by simp) ?_
  refine AllReadyH.cons (o := _) rfl (fun K hK => ?_) AllReadyH.nil
  go_simp
  with_reducible refine (T1.out _ hH61.2).mono ?_
  rintro r wc65 ⟨⟨s5, a5, n5, c5, e5, rfl, d1_68⟩, gg67⟩
  refine hK.out _ _ ⟨⟨gg67.keep hH61.1.1, gg67.keep hH61.1.2.1, gg67.keep hH61.1.2.2.1, gg67.keep hH61.1.2.2.2.1, gg67.keep hH61.1.2.2.2.2.1, gg67.keep hH61.1.2.2.2.2.2.1, gg67.keep hH61.1.2.2.2.2.2.2.1, gg67.keep hH61.1.2.2.2.2.2.2.2.1, gg67.keep hH61.1.2.2.2.2.2.2.2.2.1, gg67.keep hH61.1.2.2.2.2.2.2.2.2.2.1, gg67.keep hH61.1.2.2.2.2.2.2.2.2.2.2.1, gg67.keep hH61.1.2.2.2.2.2.2.2.2.2.2.2⟩, hH61.2.trans gg67⟩ (fun hH66 => ?_)
  clear hK K
  (try simp only [Act.put, List.setIfInBounds_toArray, List.set_cons_zero, List.set_cons_succ])
  have bS_69 := gg67.keepH bS_63
  clear bS_63
  refine wpAnyH_ready (rs := [9]) (by kernel_rfl) (by simp) ?_
  refine AllReadyH.cons (o := _) rfl (fun K hK => ?_) AllReadyH.nil
  go_simp
  with_reducible refine (T2.out _ hH66.2).mono ?_
  rintro r wc70 ⟨⟨s6, a6, n6, c6, e6, rfl, d2_73⟩, gg72⟩
  refine hK.out _ _ ⟨⟨gg72.keep hH66.1.1, gg72.keep hH66.1.2.1, gg72.keep hH66.1.2.2.1, gg72.keep hH66.1.2.2.2.1, gg72.keep hH66.1.2.2.2.2.1, gg72.keep hH66.1.2.2.2.2.2.1, gg72.keep hH66.1.2.2.2.2.2.2.1, gg72.keep hH66.1.2.2.2.2.2.2.2.1, gg72.keep hH66.1.2.2.2.2.2.2.2.2.1, gg72.keep hH66.1.2.2.2.2.2.2.2.2.2.1, gg72.keep hH66.1.2.2.2.2.2.2.2.2.2.2.1, gg72.keep hH66.1.2.2.2.2.2.2.2.2.2.2.2⟩, hH66.2.trans gg72⟩ (fun hH71 => ?_)
  clear hK K
  (try simp only [Act.put, List.setIfInBounds_toArray, List.set_cons_zero, List.set_cons_succ])
  have bS_74 := gg72.keepH bS_69
  clear bS_69
  have d1_75 := d1_68.gr gg72
  clear d1_68
  refine wpAnyH_ready (rs := [10]) (by kernel_rfl) (by simp) ?_
  refine AllReadyH.cons (o := _) rfl (fun K hK => ?_) AllReadyH.nil
  go_simp
  with_reducible refine (T3.out _ _ _ _ _ _ _ _ _ _ _ hH71.2 d1_75 d2_73).mono ?_
  rintro r wc76 ⟨⟨s7, a7, n7, c7, e7, rfl, d3_79⟩, gg78⟩
  refine hK.out _ _ ⟨⟨gg78.keep hH71.1.1, gg78.keep hH71.1.2.1, gg78.keep hH71.1.2.2.1, gg78.keep hH71.1.2.2.2.1, gg78.keep hH71.1.2.2.2.2.1, gg78.keep hH71.1.2.2.2.2.2.1, gg78.keep hH71.1.2.2.2.2.2.2.1, gg78.keep hH71.1.2.2.2.2.2.2.2.1, gg78.keep hH71.1.2.2.2.2.2.2.2.2.1, gg78.keep hH71.1.2.2.2.2.2.2.2.2.2.1, gg78.keep hH71.1.2.2.2.2.2.2.2.2.2.2.1, gg78.keep hH71.1.2.2.2.2.2.2.2.2.2.2.2⟩, hH71.2.trans gg78⟩ (fun hH77 => ?_)
  clear hK K
  (try simp only [Act.put, List.setIfInBounds_toArray, List.set_cons_zero, List.set_cons_succ])
  have bS_80 := gg78.keepH bS_74
  clear bS_74
  have d1_81 := d1_75.gr gg78
  clear d1_75
  have d2_82 := d2_73.gr gg78
  clear d2_73
  refine wpAnyH_ready (rs := [12]) (by kernel_rfl) (by simp) ?_
  refine AllReadyH.cons (o := _) rfl (fun K hK => ?_) AllReadyH.nil
  obtain ⟨t0', t1', t2'⟩ := cells_ofT bS_80
  obtain ⟨u0', u1', u2'⟩ := open_ofT bS_80
  go_simp
  refine hK.out _ _ ⟨⟨set3_far (Nat.ne_of_gt (Nat.lt_of_lt_of_le hbZ lbS64)) hH77.1.1, set3_far (Nat.ne_of_gt (Nat.lt_of_lt_of_le hbZ lbS64)) hH77.1.2.1, set3_far (Nat.ne_of_gt (Nat.lt_of_lt_of_le hbZ lbS64)) hH77.1.2.2.1, set3_far (Nat.ne_of_gt (Nat.lt_of_lt_of_le hbZ lbS64)) hH77.1.2.2.2.1, set3_far (Nat.ne_of_gt (Nat.lt_of_lt_of_le hbZ lbS64)) hH77.1.2.2.2.2.1, set3_far (Nat.ne_of_gt (Nat.lt_of_lt_of_le hbZ lbS64)) hH77.1.2.2.2.2.2.1, set3_far (Nat.ne_of_gt (Nat.lt_of_lt_of_le hbW lbS64)) hH77.1.2.2.2.2.2.2.1, set3_far (Nat.ne_of_gt (Nat.lt_of_lt_of_le hbW lbS64)) hH77.1.2.2.2.2.2.2.2.1, set3_far (Nat.ne_of_gt (Nat.lt_of_lt_of_le hbW lbS64)) hH77.1.2.2.2.2.2.2.2.2.1, set3_far (Nat.ne_of_gt (Nat.lt_of_lt_of_le hbW lbS64)) hH77.1.2.2.2.2.2.2.2.2.2.1, set3_far (Nat.ne_of_gt (Nat.lt_of_lt_of_le hbW lbS64)) hH77.1.2.2.2.2.2.2.2.2.2.2.1, set3_far (Nat.ne_of_gt (Nat.lt_of_lt_of_le hbW lbS64)) hH77.1.2.2.2.2.2.2.2.2.2.2.2⟩, (((hH77.2.setCell (p := ⟨_, 0, none⟩) lbS64 _).setCell (p := ⟨_, 1, none⟩) lbS64 _).setCell (p := ⟨_, 2, none⟩) lbS64 _)⟩ (fun hS83 => ?_)
  clear hK K t0' t1' t2' u0' u1' u2'
  (try simp only [Act.put, List.setIfInBounds_toArray, List.set_cons_zero, List.set_cons_succ])
  refine wpAnyH_done (by kernel_rfl) ?_ _
  exact ⟨_, _, _, _, _, _, _, _, _, _, _, _, _, _, _, _, _, rfl, put_block bS_80 _ _ _, d3_79.put bS_80 _ _ _, lbS64, hS83.2⟩
def R188_3 (t0 t1 t3 t4 t5 t9 t10 t11 t12 t13 t14 t15 t16 t17 t18 t19 t20 t21 t22 t23 t24 t25 t26 t27 t28 t29 t30 t31 t32 t33 t34 t35 t36 t37 t38 t39 : Value) (bA bB bG P : Nat) (s1 : Bool) (a1 : Option Addr) (n1 c1 : Nat) (e1 : Int) (s2 : Bool) (a2 : Option Addr) (n2 c2 : Nat) (e2 : Int) (V1 V2 : Int) (L : Nat) (wq : World) : Exit → Act → World → Prop
  | .normal, a, w => ∃ u31 u32 u33 u34 u35 u36 u37 u38 u39 s3 a3 n3 c3 e3 s4 a4 n4 c4 e4, a = { tmps := #[t0, t1, .int .i64 (P : Int), t3, t4, t5, .pointer (some ⟨bG, 0, none⟩), .pointer (some ⟨bA, 0, none⟩), .pointer (some ⟨bB, 0, none⟩), t9, t10, t11, t12, t13, t14, t15, t16, t17, t18, t19, t20, t21, t22, t23, t24, t25, t26, t27, t28, t29, t30, u31, u32, u33, u34, u35, u36, u37, u38, u39], defers := [] } ∧ w.heap[bG]? = some (.cells #[.bool s3, .slice a3 n3 c3, .int .i64 e3, .bool s4, .slice a4 n4 c4, .int .i64 e4] 213) ∧ Nu w s3 a3 n3 c3 e3 V1 L ∧ Nu w s4 a4 n4 c4 e4 V2 L ∧ Gx bG wq w
  | _, _, _ => False
set_option maxRecDepth 100000 in
set_option maxHeartbeats 8000000 in
theorem reg188_3 (t0 t1 t3 t4 t5 t9 t10 t11 t12 t13 t14 t15 t16 t17 t18 t19 t20 t21 t22 t23 t24 t25 t26 t27 t28 t29 t30 t31 t32 t33 t34 t35 t36 t37 t38 t39 : Value) (bA bB bG P : Nat) (s1 : Bool) (a1 : Option Addr) (n1 c1 : Nat) (e1 : Int) (s2 : Bool) (a2 : Option Addr) (n2 c2 : Nat) (e2 : Int) (V1 V2 : Int) (L : Nat) (wq : World)
    (C1 : Hid (∀ w1, Gr wq w1 → Calls Tryz.prog 170 #[.agg #[.bool s1, .slice a1 n1 c1, .int .i64 e1], .int .i64 (IntKind.i64.wrap (-(P : Int))), .bool false] w1 fun r w' => NuA w' r V1 L ∧ Gr w1 w'))
    (C2 : Hid (∀ w1, Gr wq w1 → Calls Tryz.prog 170 #[.agg #[.bool s2, .slice a2 n2 c2, .int .i64 e2], .int .i64 (IntKind.i64.wrap (-(P : Int))), .bool false] w1 fun r w' => NuA w' r V2 L ∧ Gr w1 w'))
    (hne_bA : bA ≠ bG) (hne_bB : bB ≠ bG) (hbG : wq.heap[bG]? = some (.cells #[.bool false, .slice none 0 0, .int .i64 0, .bool false, .slice none 0 0, .int .i64 0] 213)) (hcs : (wq.cell? ⟨bA, 0, none⟩ = some (.bool s1) ∧ wq.cell? ⟨bA, 1, none⟩ = some (.slice a1 n1 c1) ∧ wq.cell? ⟨bA, 2, none⟩ = some (.int .i64 e1) ∧ wq.cell? ⟨bB, 0, none⟩ = some (.bool s2) ∧ wq.cell? ⟨bB, 1, none⟩ = some (.slice a2 n2 c2) ∧ wq.cell? ⟨bB, 2, none⟩ = some (.int .i64 e2))) :
    Code.wp Tryz.prog (Code.region 3 #[{ dst := some 31, op := Op.load 84 (Operand.tmp 7), type := 84, pos := "ref.go:48", after := #[], guard := none }, { dst := some 32, op := Op.move (Operand.tmp 2), type := 3, pos := "ref.go:48", after := #[], guard := none }, { dst := some 33, op := Op.unOp UnOp.neg 3 (Operand.tmp 32), type := 3, pos := "ref.go:48", after := #[{ on := 1, ground := Ground.data }], guard := none }, { dst := some 34, op := Op.call { callee := Callee.value (Operand.func 170), args := #[Operand.tmp 31, Operand.tmp 33, Operand.const (Value.bool false)], argTypes := #[84, 3, 4] }, type := 84, pos := "ref.go:48", after := #[{ on := 0, ground := Ground.data }, { on := 2, ground := Ground.data }], guard := none }, { dst := some 35, op := Op.load 84 (Operand.tmp 8), type := 84, pos := "ref.go:48", after := #[], guard := none }, { dst := some 36, op := Op.move (Operand.tmp 2), type := 3, pos := "ref.go:48", after := #[], guard := none }, { dst := some 37, op := Op.unOp UnOp.neg 3 (Operand.tmp 36), type := 3, pos := "ref.go:48", after := #[{ on := 5, ground := Ground.data }], guard := none }, { dst := some 38, op := Op.call { callee := Callee.value (Operand.func 170), args := #[Operand.tmp 35, Operand.tmp 37, Operand.const (Value.bool false)], argTypes := #[84, 3, 4] }, type := 84, pos := "ref.go:48", after := #[{ on := 4, ground := Ground.data }, { on := 6, ground := Ground.data }, { on := 3, ground := Ground.chain }], guard := none }, { dst := some 39, op := Op.build 213 #[(0, Operand.tmp 34), (1, Operand.tmp 38)], type := 213, pos := "ref.go:48", after := #[{ on := 3, ground := Ground.data }, { on := 7, ground := Ground.data }], guard := none }, { dst := none, op := Op.store 213 (Operand.tmp 6) (Operand.tmp 39), type := 0, pos := "ref.go:48", after := #[{ on := 8, ground := Ground.data }, { on := 7, ground := Ground.chain }, { on := 0, ground := Ground.phase }, { on := 1, ground := Ground.phase }, { on := 2, ground := Ground.phase }, { on := 3, ground := Ground.phase }, { on := 4, ground := Ground.phase }, { on := 5, ground := Ground.phase }, { on := 6, ground := Ground.phase }, { on := 7, ground := Ground.phase }, { on := 8, ground := Ground.phase }], guard := none }] true) (R188_3 t0 t1 t3 t4 t5 t9 t10 t11 t12 t13 t14 t15 t16 t17 t18 t19 t20 t21 t22 t23 t24 t25 t26 t27 t28 t29 t30 t31 t32 t33 t34 t35 t36 t37 t38 t39 bA bB bG P s1 a1 n1 c1 e1 s2 a2 n2 c2 e2 V1 V2 L wq) { tmps := #[t0, t1, .int .i64 (P : Int), t3, t4, t5, .pointer (some ⟨bG, 0, none⟩), .pointer (some ⟨bA, 0, none⟩), .pointer (some ⟨bB, 0, none⟩), t9, t10, t11, t12, t13, t14, t15, t16, t17, t18, t19, t20, t21, t22, t23, t24, t25, t26, t27, t28, t29, t30, t31, t32, t33, t34, t35, t36, t37, t38, t39], defers := [] } wq := by
  have hS0 : (wq.drew.cell? ⟨bA, 0, none⟩ = some (.bool s1) ∧ wq.drew.cell? ⟨bA, 1, none⟩ = some (.slice a1 n1 c1) ∧ wq.drew.cell? ⟨bA, 2, none⟩ = some (.int .i64 e1) ∧ wq.drew.cell? ⟨bB, 0, none⟩ = some (.bool s2) ∧ wq.drew.cell? ⟨bB, 1, none⟩ = some (.slice a2 n2 c2) ∧ wq.drew.cell? ⟨bB, 2, none⟩ = some (.int .i64 e2)) ∧ Gx bG wq wq.drew := ⟨hcs, Gx.of_gr (Gr.refl wq).drew⟩
  have hbG0 : wq.drew.heap[bG]? = some (.cells #[.bool false, .slice none 0 0, .int .i64 0, .bool false, .slice none 0 0, .int .i64 0] 213) := hbG
  have hg0 : Gr wq wq.drew := (Gr.refl wq).drew
  clear hcs
  refine wp_region_held_drew (S := fun w' => (w'.cell? ⟨bA, 0, none⟩ = some (.bool s1) ∧ w'.cell? ⟨bA, 1, none⟩ = some (.slice a1 n1 c1) ∧ w'.cell? ⟨bA, 2, none⟩ = some (.int .i64 e1) ∧ w'.cell? ⟨bB, 0, none⟩ = some (.bool s2) ∧ w'.cell? ⟨bB, 1, none⟩ = some (.slice a2 n2 c2) ∧ w'.cell? ⟨bB, 2, none⟩ = some (.int .i64 e2)) ∧ Gx bG wq w') (by kernel_rfl) hS0 (fun hHeld => ?_)
  clear hS0
  generalize wq.drew = wd at *
  refine wpAnyH_take (i := 0) (oi := _) (v := ?_) rfl (by kernel_rfl) (by kernel_rfl) (by kernel_rfl) (fun _ _ _ h => h) (Or.inl ⟨by rfl, ?_⟩) (by with_reducible assumption) ?_
  rotate_left
  · intro w hSw
    (try dsimp only at hSw)
    first | (go_simp; done) | (go_simp; with_reducible rfl)
  (try simp only [Act.put, List.setIfInBounds_toArray, List.set_cons_zero, List.set_cons_succ])
  refine wpAnyH_take (i := 1) (oi := _) (v := ?_) rfl (by kernel_rfl) (by kernel_rfl) (by kernel_rfl) (fun _ _ _ h => h) (Or.inl ⟨by rfl, ?_⟩) (by with_reducible assumption) ?_
  rotate_left
  · intro w hSw
    (try dsimp only at hSw)
    first | (go_simp; done) | (go_simp; with_reducible rfl)
  (try simp only [Act.put, List.setIfInBounds_toArray, List.set_cons_zero, List.set_cons_succ])
  refine wpAnyH_take (i := 2) (oi := _) (v := ?_) rfl (by kernel_rfl) (by kernel_rfl) (by kernel_rfl) (fun _ _ _ h => h) (Or.inl ⟨by rfl, ?_⟩) (by with_reducible assumption) ?_
  rotate_left
  · intro w hSw
    (try dsimp only at hSw)
    first | (go_simp; done) | (go_simp; with_reducible rfl)
  (try simp only [Act.put, List.setIfInBounds_toArray, List.set_cons_zero, List.set_cons_succ])
  refine wpAnyH_take (i := 4) (oi := _) (v := ?_) rfl (by kernel_rfl) (by kernel_rfl) (by kernel_rfl) (fun _ _ _ h => h) (Or.inl ⟨by rfl, ?_⟩) (by with_reducible assumption) ?_
  rotate_left
  · intro w hSw
    (try dsimp only at hSw)
    first | (go_simp; done) | (go_simp; with_reducible rfl)
  (try simp only [Act.put, List.setIfInBounds_toArray, List.set_cons_zero, List.set_cons_succ])
  refine wpAnyH_take (i := 5) (oi := _) (v := ?_) rfl (by kernel_rfl) (by kernel_rfl) (by kernel_rfl) (fun _ _ _ h => h) (Or.inl ⟨by rfl, ?_⟩) (by with_reducible assumption) ?_
  rotate_left
  · intro w hSw
    (try dsimp only at hSw)
    first | (go_simp; done) | (go_simp; with_reducible rfl)
  (try simp only [Act.put, List.setIfInBounds_toArray, List.set_cons_zero, List.set_cons_succ])
  refine wpAnyH_take (i := 6) (oi := _) (v := ?_) rfl (by kernel_rfl) (by kernel_rfl) (by kernel_rfl) (fun _ _ _ h => h) (Or.inl ⟨by rfl, ?_⟩) (by with_reducible assumption) ?_
  rotate_left
  · intro w hSw
    (try dsimp only at hSw)
    first | (go_simp; done) | (go_simp; with_reducible rfl)
  (try simp only [Act.put, List.setIfInBounds_toArray, List.set_cons_zero, List.set_cons_succ])
  refine wpAnyH_ready (rs := [3]) (by kernel_rfl) (by simp) ?_
  refine AllReadyH.cons (o := _) rfl (fun K hK => ?_) AllReadyH.nil
  go_simp
  with_reducible refine (C1.out _ hg0).mono ?_
  rintro r wc1 ⟨⟨s3, a3, n3, c3, e3, rfl, d1_4⟩, gg3⟩
  refine hK.out _ _ ⟨⟨gg3.keep hHeld.1.1, gg3.keep hHeld.1.2.1, gg3.keep hHeld.1.2.2.1, gg3.keep hHeld.1.2.2.2.1, gg3.keep hHeld.1.2.2.2.2.1, gg3.keep hHeld.1.2.2.2.2.2⟩, hHeld.2.trans (Gx.of_gr gg3)⟩ (fun hH2 => ?_)
  clear hK K
  (try simp only [Act.put, List.setIfInBounds_toArray, List.set_cons_zero, List.set_cons_succ])
  have bG_5 := gg3.keepH hbG0
  clear hbG0
  have gq6 := hg0.trans gg3
  clear hg0
  refine wpAnyH_ready (rs := [7]) (by kernel_rfl) (by simp) ?_
  refine AllReadyH.cons (o := _) rfl (fun K hK => ?_) AllReadyH.nil
  go_simp
  with_reducible refine (C2.out _ gq6).mono ?_
  rintro r wc7 ⟨⟨s4, a4, n4, c4, e4, rfl, d2_10⟩, gg9⟩
  refine hK.out _ _ ⟨⟨gg9.keep hH2.1.1, gg9.keep hH2.1.2.1, gg9.keep hH2.1.2.2.1, gg9.keep hH2.1.2.2.2.1, gg9.keep hH2.1.2.2.2.2.1, gg9.keep hH2.1.2.2.2.2.2⟩, hH2.2.trans (Gx.of_gr gg9)⟩ (fun hH8 => ?_)
  clear hK K
  (try simp only [Act.put, List.setIfInBounds_toArray, List.set_cons_zero, List.set_cons_succ])
  have bG_11 := gg9.keepH bG_5
  clear bG_5
  have d1_12 := d1_4.gr gg9
  clear d1_4
  have gq13 := gq6.trans gg9
  clear gq6
  refine wpAnyH_take (i := 8) (oi := _) (v := ?_) rfl (by kernel_rfl) (by kernel_rfl) (by kernel_rfl) (fun _ _ _ h => h) (Or.inl ⟨by rfl, ?_⟩) (by with_reducible assumption) ?_
  rotate_left
  · intro w hSw
    (try dsimp only at hSw)
    first | (go_simp; done) | (go_simp; with_reducible rfl)
  (try simp only [Act.put, List.setIfInBounds_toArray, List.set_cons_zero, List.set_cons_succ])
  refine wpAnyH_ready (rs := [9]) (by kernel_rfl) (by simp) ?_
  refine AllReadyH.cons (o := _) rfl (fun K hK => ?_) AllReadyH.nil
  obtain ⟨x0', x1', x2', x3', x4', x5', y0', y1', y2', y3', y4', y5'⟩ := out6 bG_11
  go_simp
  refine hK.out _ _ ⟨⟨(gx6 _ _ _ _ _ _ _ _).keepc hne_bA hH8.1.1, (gx6 _ _ _ _ _ _ _ _).keepc hne_bA hH8.1.2.1, (gx6 _ _ _ _ _ _ _ _).keepc hne_bA hH8.1.2.2.1, (gx6 _ _ _ _ _ _ _ _).keepc hne_bB hH8.1.2.2.2.1, (gx6 _ _ _ _ _ _ _ _).keepc hne_bB hH8.1.2.2.2.2.1, (gx6 _ _ _ _ _ _ _ _).keepc hne_bB hH8.1.2.2.2.2.2⟩, hH8.2.trans (gx6 _ _ _ _ _ _ _ _)⟩ (fun hS14 => ?_)
  clear hK K x0' x1' x2' x3' x4' x5' y0' y1' y2' y3' y4' y5'
  (try simp only [Act.put, List.setIfInBounds_toArray, List.set_cons_zero, List.set_cons_succ])
  refine wpAnyH_done (by kernel_rfl) ?_ _
  exact ⟨_, _, _, _, _, _, _, _, _, _, _, _, _, _, _, _, _, _, _, rfl, putB6 bG_11 _ _ _ _ _ _, d1_12.gx (NoR.of bG_11 rfl) (gx6 _ _ _ _ _ _ _ _), d2_10.gx (NoR.of bG_11 rfl) (gx6 _ _ _ _ _ _ _ _), hS14.2⟩
end Go.Proofs.YthilajhciifhaaaGreatDoor
