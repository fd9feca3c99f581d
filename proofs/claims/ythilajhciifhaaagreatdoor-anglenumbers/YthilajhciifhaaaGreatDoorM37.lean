import Derived.Test.YthilajhciifhaaaGreatDoorM36
import Derived.Deep.RegionHeld3
namespace Go.Proofs.YthilajhciifhaaaGreatDoor
open Go.RowKit
set_option linter.unusedVariables false
set_option linter.unusedSimpArgs false
def R77 (t0 t1 t3 t4 t5 t6 t7 t10 t11 t12 t13 t14 t15 t16 t17 t18 t19 t20 t21 t22 t23 t24 t25 t26 t27 t28 t29 t30 t31 t32 : Value) (bL bH b : Nat) (s1 : Bool) (a1 : Option Addr) (n1 c1 : Nat) (e1 : Int) (s4 : Bool) (a4 : Option Addr) (n4 c4 : Nat) (e4 : Int) (V1 V2 : Int) (L M : Nat) (wq : World) : Exit → Act → World → Prop
  | .normal, a, w => ∃ u21 u22 u23 u24 s3 a3 n3 c3 e3, a = { tmps := #[t0, t1, .int .i64 (b : Int), t3, t4, t5, t6, t7, .pointer (some ⟨bL, 0, none⟩), .pointer (some ⟨bH, 0, none⟩), t10, t11, t12, t13, t14, t15, t16, t17, t18, t19, t20, u21, u22, u23, u24, t25, t26, t27, t28, t29, t30, t31, t32], defers := [] } ∧ w.heap[bH]? = some (.cells #[.bool s3, .slice a3 n3 c3, .int .i64 e3] 84) ∧ Nu w s3 a3 n3 c3 e3 V2 M ∧ Gx bH wq w
  | _, _, _ => False
set_option maxRecDepth 100000 in
set_option maxHeartbeats 8000000 in
theorem reg77 (t0 t1 t3 t4 t5 t6 t7 t10 t11 t12 t13 t14 t15 t16 t17 t18 t19 t20 t21 t22 t23 t24 t25 t26 t27 t28 t29 t30 t31 t32 : Value) (bL bH b : Nat) (s1 : Bool) (a1 : Option Addr) (n1 c1 : Nat) (e1 : Int) (s4 : Bool) (a4 : Option Addr) (n4 c4 : Nat) (e4 : Int) (V1 V2 : Int) (L M : Nat) (wq : World)
    (UN : Hid (∀ w1, Calls Tryz.prog 130 #[.int .i64 1, .int .i64 (b : Int)] w1 fun r w' => NuA w' r V1 L ∧ Gr w1 w'))
    (PL : Hid (∀ w1 s ad n cap e, Gr wq w1 → Nu w1 s ad n cap e V1 L → Calls Tryz.prog 63 #[.agg #[.bool s1, .slice a1 n1 c1, .int .i64 e1], .agg #[.bool s, .slice ad n cap, .int .i64 e]] w1 fun r w' => NuA w' r V2 M ∧ Gr w1 w'))
    (hne_bL : bL ≠ bH) (hbH : wq.heap[bH]? = some (.cells #[.bool s4, .slice a4 n4 c4, .int .i64 e4] 84)) (hcs : (wq.cell? ⟨bL, 0, none⟩ = some (.bool s1) ∧ wq.cell? ⟨bL, 1, none⟩ = some (.slice a1 n1 c1) ∧ wq.cell? ⟨bL, 2, none⟩ = some (.int .i64 e1))) :
    Code.wp Tryz.prog (Code.region 5 #[{ dst := some 21, op := Op.load 84 (Operand.tmp 8), type := 84, pos := "ref.go:131", after := #[], guard := none }, { dst := some 22, op := Op.move (Operand.tmp 2), type := 3, pos := "ref.go:131", after := #[], guard := none }, { dst := some 23, op := Op.call { callee := Callee.value (Operand.func 130), args := #[Operand.const (Value.int IntKind.i64 1), Operand.tmp 22], argTypes := #[2, 3] }, type := 84, pos := "ref.go:131", after := #[{ on := 1, ground := Ground.data }], guard := none }, { dst := some 24, op := Op.call { callee := Callee.value (Operand.func 63), args := #[Operand.tmp 21, Operand.tmp 23], argTypes := #[84, 84] }, type := 84, pos := "ref.go:131", after := #[{ on := 0, ground := Ground.data }, { on := 2, ground := Ground.data }, { on := 2, ground := Ground.chain }], guard := none }, { dst := none, op := Op.store 84 (Operand.tmp 9) (Operand.tmp 24), type := 0, pos := "ref.go:131", after := #[{ on := 3, ground := Ground.data }, { on := 3, ground := Ground.chain }, { on := 0, ground := Ground.phase }, { on := 1, ground := Ground.phase }, { on := 2, ground := Ground.phase }, { on := 3, ground := Ground.phase }], guard := none }] true) (R77 t0 t1 t3 t4 t5 t6 t7 t10 t11 t12 t13 t14 t15 t16 t17 t18 t19 t20 t21 t22 t23 t24 t25 t26 t27 t28 t29 t30 t31 t32 bL bH b s1 a1 n1 c1 e1 s4 a4 n4 c4 e4 V1 V2 L M wq) { tmps := #[t0, t1, .int .i64 (b : Int), t3, t4, t5, t6, t7, .pointer (some ⟨bL, 0, none⟩), .pointer (some ⟨bH, 0, none⟩), t10, t11, t12, t13, t14, t15, t16, t17, t18, t19, t20, t21, t22, t23, t24, t25, t26, t27, t28, t29, t30, t31, t32], defers := [] } wq := by
  have hS0 : (wq.drew.cell? ⟨bL, 0, none⟩ = some (.bool s1) ∧ wq.drew.cell? ⟨bL, 1, none⟩ = some (.slice a1 n1 c1) ∧ wq.drew.cell? ⟨bL, 2, none⟩ = some (.int .i64 e1)) ∧ Gx bH wq wq.drew := ⟨hcs, Gx.of_gr (Gr.refl wq).drew⟩
  have hbH0 : wq.drew.heap[bH]? = some (.cells #[.bool s4, .slice a4 n4 c4, .int .i64 e4] 84) := hbH
  have hg0 : Gr wq wq.drew := (Gr.refl wq).drew
  clear hcs
  refine wp_region_held_drew (S := fun w' => (w'.cell? ⟨bL, 0, none⟩ = some (.bool s1) ∧ w'.cell? ⟨bL, 1, none⟩ = some (.slice a1 n1 c1) ∧ w'.cell? ⟨bL, 2, none⟩ = some (.int .i64 e1)) ∧ Gx bH wq w') (by kernel_rfl) hS0 (fun hHeld => ?_)
  clear hS0
  generalize wq.drew = wd at *
  refine wpAnyH_take (i := 0) (oi := _) (v := ?_) rfl (by kernel_rfl) (by kernel_rfl) (by kernel_rfl) (fun _ _ _ h => h) (Or.inl ⟨by rfl, ?_⟩) (by with_reducible assumption) ?_
  rotate_left
  · intro w hSw
    (try dsimp only at hSw)
    first | (go_simp; done) | (go_simp; with_reducible rfl)
  (try simp only [Act.put, List.setIfInBounds_toArray, List.set_cons_zero, List.set_cons_succ])
  refine wpAnyH_take (i := 1) (oi := _) (v := ?_) rfl (by kernel_rfl) (by kernel_rfl) (by kernel_rfl) (fun _ _ _ h => h) (Or.inl ⟨by rfl, ?_⟩) (by with_reducible assumption) ?_
  rotate_left
  · intro w hSw
    (try dsimp only at hSw)
    first | (go_simp; done) | (go_simp; with_reducible rfl)
  (try simp only [Act.put, List.setIfInBounds_toArray, List.set_cons_zero, List.set_cons_succ])
  refine wpAnyH_ready (rs := [2]) (by kernel_rfl) (by simp) ?_
  refine AllReadyH.cons (o := _) rfl (fun K hK => ?_) AllReadyH.nil
  go_simp
  with_reducible refine (UN.out _).mono ?_
  rintro r wc1 ⟨⟨s2, a2, n2, c2, e2, rfl, d1_4⟩, gg3⟩
  refine hK.out _ _ ⟨⟨gg3.keep hHeld.1.1, gg3.keep hHeld.1.2.1, gg3.keep hHeld.1.2.2⟩, hHeld.2.trans (Gx.of_gr gg3)⟩ (fun hH2 => ?_)
  clear hK K
  (try simp only [Act.put, List.setIfInBounds_toArray, List.set_cons_zero, List.set_cons_succ])
  have bH_5 := gg3.keepH hbH0
  clear hbH0
  have gq6 := hg0.trans gg3
  clear hg0
  refine wpAnyH_ready (rs := [3]) (by kernel_rfl) (by simp) ?_
  refine AllReadyH.cons (o := _) rfl (fun K hK => ?_) AllReadyH.nil
  go_simp
  with_reducible refine (PL.out _ _ _ _ _ _ gq6 d1_4).mono ?_
  rintro r wc7 ⟨⟨s3, a3, n3, c3, e3, rfl, d2_10⟩, gg9⟩
  refine hK.out _ _ ⟨⟨gg9.keep hH2.1.1, gg9.keep hH2.1.2.1, gg9.keep hH2.1.2.2⟩, hH2.2.trans (Gx.of_gr gg9)⟩ (fun hH8 => ?_)
  clear hK K
  (try simp only [Act.put, List.setIfInBounds_toArray, List.set_cons_zero, List.set_cons_succ])
  have bH_11 := gg9.keepH bH_5
  clear bH_5
  have d1_12 := d1_4.gr gg9
  clear d1_4
  have gq13 := gq6.trans gg9
  clear gq6
  refine wpAnyH_ready (rs := [4]) (by kernel_rfl) (by simp) ?_
  refine AllReadyH.cons (o := _) rfl (fun K hK => ?_) AllReadyH.nil
  obtain ⟨t0', t1', t2'⟩ := cells_ofT bH_11
  obtain ⟨u0', u1', u2'⟩ := open_ofT bH_11
  go_simp
  refine hK.out _ _ ⟨⟨(gx3 _ _ _ _ _).keepc hne_bL hH8.1.1, (gx3 _ _ _ _ _).keepc hne_bL hH8.1.2.1, (gx3 _ _ _ _ _).keepc hne_bL hH8.1.2.2⟩, hH8.2.trans (gx3 _ _ _ _ _)⟩ (fun hS14 => ?_)
  clear hK K t0' t1' t2' u0' u1' u2'
  (try simp only [Act.put, List.setIfInBounds_toArray, List.set_cons_zero, List.set_cons_succ])
  refine wpAnyH_done (by kernel_rfl) ?_ _
  exact ⟨_, _, _, _, _, _, _, _, _, rfl, put_block bH_11 _ _ _, d2_10.gx (NoR.of bH_11 rfl) (gx3 _ _ _ _ _), hS14.2⟩
end Go.Proofs.YthilajhciifhaaaGreatDoor
namespace Go.Proofs.YthilajhciifhaaaGreatDoor
open Go.RowKit
set_option linter.unusedVariables false
set_option linter.unusedSimpArgs false
def R778 (t0 t1 t2 t3 t4 t5 t10 t11 t12 t13 t14 t15 t16 t17 t18 t19 t20 t21 t22 t23 t24 t25 t26 t27 t28 t29 t30 t31 t32 : Value) (bL bH bA bB : Nat) (s1 : Bool) (a1 : Option Addr) (n1 c1 : Nat) (e1 : Int) (s2 : Bool) (a2 : Option Addr) (n2 c2 : Nat) (e2 : Int) (V1 V2 : Int) (L M : Nat) (wq wr : World) : Exit → Act → World → Prop
  | .normal, a, w => ∃ u31 u32, a = { tmps := #[t0, t1, t2, t3, t4, t5, .pointer (some ⟨bA, 0, none⟩), .pointer (some ⟨bB, 0, none⟩), .pointer (some ⟨bL, 0, none⟩), .pointer (some ⟨bH, 0, none⟩), t10, t11, t12, t13, t14, t15, t16, t17, t18, t19, t20, t21, t22, t23, t24, t25, t26, t27, t28, t29, t30, u31, u32], defers := [] } ∧ w.heap[bA]? = some (.cells #[.bool s1, .slice a1 n1 c1, .int .i64 e1] 84) ∧ w.heap[bB]? = some (.cells #[.bool s2, .slice a2 n2 c2, .int .i64 e2] 84) ∧ Nu w s1 a1 n1 c1 e1 V1 L ∧ Nu w s2 a2 n2 c2 e2 V2 M ∧ Gr wq w
  | _, _, _ => False
set_option maxRecDepth 100000 in
set_option maxHeartbeats 8000000 in
theorem reg778 (t0 t1 t2 t3 t4 t5 t10 t11 t12 t13 t14 t15 t16 t17 t18 t19 t20 t21 t22 t23 t24 t25 t26 t27 t28 t29 t30 t31 t32 : Value) (bL bH bA bB : Nat) (s1 : Bool) (a1 : Option Addr) (n1 c1 : Nat) (e1 : Int) (s2 : Bool) (a2 : Option Addr) (n2 c2 : Nat) (e2 : Int) (V1 V2 : Int) (L M : Nat) (wq wr : World) (hg : Gr wq wr) (d1 : Nu wr s1 a1 n1 c1 e1 V1 L) (d2 : Nu wr s2 a2 n2 c2 e2 V2 M)
    (hle_bA : wq.heap.size ≤ bA) (hle_bB : wq.heap.size ≤ bB) (hne_ab : bB ≠ bA) (hne_bL_bA : bL ≠ bA) (hne_bL_bB : bL ≠ bB) (hne_bH_bA : bH ≠ bA) (hne_bH_bB : bH ≠ bB)
    (hbA : wr.heap[bA]? = some (.cells #[.bool false, .slice none 0 0, .int .i64 0] 84)) (hbB : wr.heap[bB]? = some (.cells #[.bool false, .slice none 0 0, .int .i64 0] 84)) (hcs : (wr.cell? ⟨bL, 0, none⟩ = some (.bool s1) ∧ wr.cell? ⟨bL, 1, none⟩ = some (.slice a1 n1 c1) ∧ wr.cell? ⟨bL, 2, none⟩ = some (.int .i64 e1) ∧ wr.cell? ⟨bH, 0, none⟩ = some (.bool s2) ∧ wr.cell? ⟨bH, 1, none⟩ = some (.slice a2 n2 c2) ∧ wr.cell? ⟨bH, 2, none⟩ = some (.int .i64 e2))) :
    Code.wp Tryz.prog (Code.region 8 #[{ dst := some 31, op := Op.load 84 (Operand.tmp 8), type := 84, pos := "ref.go:136", after := #[], guard := none }, { dst := some 32, op := Op.load 84 (Operand.tmp 9), type := 84, pos := "ref.go:136", after := #[{ on := 2, ground := Ground.gcOnly Departure.lateStores }], guard := none }, { dst := none, op := Op.store 84 (Operand.tmp 6) (Operand.tmp 31), type := 0, pos := "ref.go:136", after := #[{ on := 0, ground := Ground.data }, { on := 0, ground := Ground.phase }, { on := 1, ground := Ground.textOnly Departure.lateStores }], guard := none }, { dst := none, op := Op.store 84 (Operand.tmp 7) (Operand.tmp 32), type := 0, pos := "ref.go:136", after := #[{ on := 1, ground := Ground.data }, { on := 2, ground := Ground.chain }, { on := 0, ground := Ground.phase }, { on := 1, ground := Ground.phase }, { on := 2, ground := Ground.phase }], guard := none }] true) (R778 t0 t1 t2 t3 t4 t5 t10 t11 t12 t13 t14 t15 t16 t17 t18 t19 t20 t21 t22 t23 t24 t25 t26 t27 t28 t29 t30 t31 t32 bL bH bA bB s1 a1 n1 c1 e1 s2 a2 n2 c2 e2 V1 V2 L M wq wr) { tmps := #[t0, t1, t2, t3, t4, t5, .pointer (some ⟨bA, 0, none⟩), .pointer (some ⟨bB, 0, none⟩), .pointer (some ⟨bL, 0, none⟩), .pointer (some ⟨bH, 0, none⟩), t10, t11, t12, t13, t14, t15, t16, t17, t18, t19, t20, t21, t22, t23, t24, t25, t26, t27, t28, t29, t30, t31, t32], defers := [] } wr := by
  have hS0 : (wr.drew.cell? ⟨bL, 0, none⟩ = some (.bool s1) ∧ wr.drew.cell? ⟨bL, 1, none⟩ = some (.slice a1 n1 c1) ∧ wr.drew.cell? ⟨bL, 2, none⟩ = some (.int .i64 e1) ∧ wr.drew.cell? ⟨bH, 0, none⟩ = some (.bool s2) ∧ wr.drew.cell? ⟨bH, 1, none⟩ = some (.slice a2 n2 c2) ∧ wr.drew.cell? ⟨bH, 2, none⟩ = some (.int .i64 e2)) ∧ Gr wq wr.drew := ⟨hcs, hg.drew⟩
  have hbA0 : wr.drew.heap[bA]? = some (.cells #[.bool false, .slice none 0 0, .int .i64 0] 84) := hbA
  have hbB0 : wr.drew.heap[bB]? = some (.cells #[.bool false, .slice none 0 0, .int .i64 0] 84) := hbB
  have d1' := d1.gr (Gr.refl wr).drew
  have d2' := d2.gr (Gr.refl wr).drew
  clear hcs
  refine wp_region_held_drew (S := fun w' => (w'.cell? ⟨bL, 0, none⟩ = some (.bool s1) ∧ w'.cell? ⟨bL, 1, none⟩ = some (.slice a1 n1 c1) ∧ w'.cell? ⟨bL, 2, none⟩ = some (.int .i64 e1) ∧ w'.cell? ⟨bH, 0, none⟩ = some (.bool s2) ∧ w'.cell? ⟨bH, 1, none⟩ = some (.slice a2 n2 c2) ∧ w'.cell? ⟨bH, 2, none⟩ = some (.int .i64 e2)) ∧ Gr wq w') (by kernel_rfl) hS0 (fun hHeld => ?_)
  clear hS0
  generalize wr.drew = wd at *
  refine wpAnyH_take (i := 0) (oi := _) (v := ?_) rfl (by kernel_rfl) (by kernel_rfl) (by kernel_rfl) (fun _ _ _ h => h) (Or.inl ⟨by rfl, ?_⟩) (by with_reducible assumption) ?_
  rotate_left
  · intro w hSw
    (try dsimp only at hSw)
    first | (go_simp; done) | (go_simp; with_reducible rfl)
  (try simp only [Act.put, List.setIfInBounds_toArray, List.set_cons_zero, List.set_cons_succ])
  refine wpAnyH_take (i := 1) (oi := _) (v := ?_) rfl (by kernel_rfl) (by kernel_rfl) (by kernel_rfl) (fun _ _ _ h => h) (Or.inl ⟨by rfl, ?_⟩) (by with_reducible assumption) ?_
  rotate_left
  · intro w hSw
    (try dsimp only at hSw)
    first | (go_simp; done) | (go_simp; with_reducible rfl)
  (try simp only [Act.put, List.setIfInBounds_toArray, List.set_cons_zero, List.set_cons_succ])
  refine wpAnyH_ready (rs := [2]) (by kernel_rfl) (by simp) ?_
  refine AllReadyH.cons (o := _) rfl (fun K hK => ?_) AllReadyH.nil
  obtain ⟨t0', t1', t2'⟩ := cells_ofT hbA0
  obtain ⟨u0', u1', u2'⟩ := open_ofT hbA0
  go_simp
  refine hK.out _ _ ⟨⟨(gx3 _ _ _ _ _).keepc hne_bL_bA hHeld.1.1, (gx3 _ _ _ _ _).keepc hne_bL_bA hHeld.1.2.1, (gx3 _ _ _ _ _).keepc hne_bL_bA hHeld.1.2.2.1, (gx3 _ _ _ _ _).keepc hne_bH_bA hHeld.1.2.2.2.1, (gx3 _ _ _ _ _).keepc hne_bH_bA hHeld.1.2.2.2.2.1, (gx3 _ _ _ _ _).keepc hne_bH_bA hHeld.1.2.2.2.2.2⟩, (gx3 _ _ _ _ _).gr hle_bA hHeld.2⟩ (fun hS1 => ?_)
  clear hK K t0' t1' t2' u0' u1' u2'
  (try simp only [Act.put, List.setIfInBounds_toArray, List.set_cons_zero, List.set_cons_succ])
  have gz3 := gx3 wd bA (.bool s1) (.slice a1 n1 c1) (.int .i64 e1)
  have nbA := put_block hbA0 (.bool s1) (.slice a1 n1 c1) (.int .i64 e1)
  have d1_4 := d1'.gx (NoR.of hbA0 rfl) gz3
  have d2_5 := d2'.gx (NoR.of hbA0 rfl) gz3
  have bB_6 := gz3.keepH hne_ab hbB0
  clear gz3
  generalize (((wd.setCell ⟨bA, 0, none⟩ (.bool s1)).setCell ⟨bA, 1, none⟩ (.slice a1 n1 c1)).setCell ⟨bA, 2, none⟩ (.int .i64 e1)) = ws2 at *
  refine wpAnyH_ready (rs := [3]) (by kernel_rfl) (by simp) ?_
  refine AllReadyH.cons (o := _) rfl (fun K hK => ?_) AllReadyH.nil
  obtain ⟨t0', t1', t2'⟩ := cells_ofT bB_6
  obtain ⟨u0', u1', u2'⟩ := open_ofT bB_6
  go_simp
  refine hK.out _ _ ⟨⟨(gx3 _ _ _ _ _).keepc hne_bL_bB hS1.1.1, (gx3 _ _ _ _ _).keepc hne_bL_bB hS1.1.2.1, (gx3 _ _ _ _ _).keepc hne_bL_bB hS1.1.2.2.1, (gx3 _ _ _ _ _).keepc hne_bH_bB hS1.1.2.2.2.1, (gx3 _ _ _ _ _).keepc hne_bH_bB hS1.1.2.2.2.2.1, (gx3 _ _ _ _ _).keepc hne_bH_bB hS1.1.2.2.2.2.2⟩, (gx3 _ _ _ _ _).gr hle_bB hS1.2⟩ (fun hS7 => ?_)
  clear hK K t0' t1' t2' u0' u1' u2'
  (try simp only [Act.put, List.setIfInBounds_toArray, List.set_cons_zero, List.set_cons_succ])
  have gz9 := gx3 ws2 bB (.bool s2) (.slice a2 n2 c2) (.int .i64 e2)
  have nbB := put_block bB_6 (.bool s2) (.slice a2 n2 c2) (.int .i64 e2)
  have d1_10 := d1_4.gx (NoR.of bB_6 rfl) gz9
  have d2_11 := d2_5.gx (NoR.of bB_6 rfl) gz9
  have nA_12 := gz9.keepH (Ne.symm hne_ab) nbA
  clear gz9
  generalize (((ws2.setCell ⟨bB, 0, none⟩ (.bool s2)).setCell ⟨bB, 1, none⟩ (.slice a2 n2 c2)).setCell ⟨bB, 2, none⟩ (.int .i64 e2)) = ws8 at *
  refine wpAnyH_done (by kernel_rfl) ?_ _
  exact ⟨_, _, rfl, nA_12, nbB, d1_10, d2_11, hS7.2⟩
end Go.Proofs.YthilajhciifhaaaGreatDoor
namespace Go.Proofs.YthilajhciifhaaaGreatDoor
open Go.RowKit
set_option linter.unusedVariables false
set_option linter.unusedSimpArgs false
set_option maxRecDepth 10000 in
set_option maxHeartbeats 8000000 in
theorem refEnds (si : Bool) (stp od V : Int) (b : Nat) (w : World) (hb : b ≤ 2048)
    (FL : Hid (∀ w1, Gr w w1 → Calls Tryz.prog 129 #[.agg #[.bool false, .bool si, .bool false, .int .i64 0, .int .i64 stp], .int .i64 od, .int .i64 (b : Int)] w1 fun r w' => NuA w' r V 200000 ∧ Gr w1 w')) :
    Calls Tryz.prog 77 #[.agg #[.bool false, .bool si, .bool false, .int .i64 0, .int .i64 stp], .int .i64 od, .int .i64 (b : Int)] w fun r w' => (∃ s1 a1 n1 c1 e1 s2 a2 n2 c2 e2, r = .returned (.tuple #[.agg #[.bool s1, .slice a1 n1 c1, .int .i64 e1], .agg #[.bool s2, .slice a2 n2 c2, .int .i64 e2]]) ∧ Nu w' s1 a1 n1 c1 e1 V 200000 ∧ Nu w' s2 a2 n2 c2 e2 (V + 1 * Un b) 900000) ∧ Gr w w' := by
  have TA : Hid _ := three_at w (.cells #[.bool false, .bool si, .bool false, .int .i64 0, .int .i64 stp] 117) (.cells #[.bool false, .slice none 0 0, .int .i64 0] 84) (.cells #[.bool false, .slice none 0 0, .int .i64 0] 84) _ rfl
  have W0 : Hid (∀ w1, Calls Tryz.prog 128 #[.int .i64 0] w1 fun r w' => NuA w' r (0 * Un 0) 10 ∧ Gr w1 w') := fun w1 => numWhole 0 w1 (by omega)
  have UN : Hid (∀ w1, Calls Tryz.prog 130 #[.int .i64 1, .int .i64 (b : Int)] w1 fun r w' => NuA w' r (1 * Un b) 3000 ∧ Gr w1 w') := fun w1 => refUnits b w1 hb
  have PL : Hid (∀ w1 s1 a1 n1 c1 e1 s2 a2 n2 c2 e2, Nu w1 s1 a1 n1 c1 e1 V 200000 → Nu w1 s2 a2 n2 c2 e2 (1 * Un b) 3000 → Calls Tryz.prog 63 #[.agg #[.bool s1, .slice a1 n1 c1, .int .i64 e1], .agg #[.bool s2, .slice a2 n2 c2, .int .i64 e2]] w1 fun r w' => NuA w' r (V + 1 * Un b) 900000 ∧ Gr w1 w') := fun w1 s1 a1 n1 c1 e1 s2 a2 n2 c2 e2 x y => by
    refine (numPlus s1 s2 a1 a2 n1 n2 c1 c2 e1 e2 _ _ 200000 w1 x (y.more (by omega)) (by omega)).mono ?_
    rintro r w' ⟨⟨s, ad, n, cap, e, rfl, u⟩, g'⟩
    exact ⟨⟨_, _, _, _, _, rfl, u.more (by omega)⟩, g'⟩
  obtain ⟨f0, f1, f2, f3, f4⟩ := out5 TA.out.1
  go_enter Tryz.func77, Tryz.ntmps77
  go_wp2_with (first
    | (go_at_call 128; (with_reducible refine (W0.out _).mono ?_); rintro r w1 ⟨⟨s1, a1, n1, c1, e1, rfl, u1⟩, g1⟩; have gA : Gr w1 ((w1.alloc (.cells #[.bool s1, .slice a1 n1 c1, .int .i64 e1] 84)).alloc (.cells #[.bool s1, .slice a1 n1 c1, .int .i64 e1] 84)) := gr2 _ _; have t1 := gA.keepH (g1.keepH TA.out.1); obtain ⟨h0, h1, h2, h3, h4⟩ := out5 t1)
    | (go_at_call 129; (with_reducible refine (FL.out _ ((TA.out.2.2.2.1.trans g1).trans gA)).mono ?_); rintro r w2 ⟨⟨s2, a2, n2, c2, e2, rfl, u2⟩, g2⟩; have k8 := g2.keepH (((Gr.refl _).alloc (.cells #[.bool s1, .slice a1 n1 c1, .int .i64 e1] 84)).keepH (new_at w1 (.cells #[.bool s1, .slice a1 n1 c1, .int .i64 e1] 84))); obtain ⟨y0, y1, y2⟩ := cells_ofT k8; obtain ⟨z0, z1, z2⟩ := open_ofT k8))
  have k9 := g2.keepH (second_block w1 (.cells #[.bool s1, .slice a1 n1 c1, .int .i64 e1] 84) (.cells #[.bool s1, .slice a1 n1 c1, .int .i64 e1] 84))
  have nr8 := NoR.of k8 rfl
  have gx := gx3 w2 w1.heap.size (.bool s2) (.slice a2 n2 c2) (.int .i64 e2)
  have sz1 : w.heap.size + 3 ≤ w1.heap.size := by
    have := g1.size
    rw [TA.out.2.2.2.2] at this
    exact this
  have m8 := put_block k8 (.bool s2) (.slice a2 n2 c2) (.int .i64 e2)
  have m9 := gx.keepH (by omega) k9
  have mt := gx.keepH (by omega) (g2.keepH (gA.keepH (g1.keepH TA.out.1)))
  have m6 := gx.keepH (by omega) (g2.keepH (gA.keepH (g1.keepH TA.out.2.1)))
  have m7 := gx.keepH (by omega) (g2.keepH (gA.keepH (g1.keepH TA.out.2.2.1)))
  have GG : Hid (Gr w _) := gx.gr (by omega) (((TA.out.2.2.2.1.trans g1).trans gA).trans g2)
  have v2 := u2.gx nr8 gx
  clear gx y0 y1 y2 z0 z1 z2 h0 h1 h2 h3 h4 f0 f1 f2 f3 f4
  generalize (((w2.setCell ⟨w1.heap.size, 0, none⟩ (.bool s2)).setCell ⟨w1.heap.size, 1, none⟩ (.slice a2 n2 c2)).setCell ⟨w1.heap.size, 2, none⟩ (.int .i64 e2)) = w3 at *
  obtain ⟨y0, y1, y2⟩ := cells_ofT m8
  refine Code.wp_mono ?_ (reg77 _ _ _ _ _ _ _ _ _ _ _ _ _ _ _ _ _ _ _ _ _ _ _ _ _ _ _ _ _ _ w1.heap.size (w1.heap.size + 1) b s2 a2 n2 c2 e2 s1 a1 n1 c1 e1 (1 * Un b) (V + 1 * Un b) 3000 900000 w3 UN (fun w4 s ad n cap e g u => PL.out w4 _ _ _ _ _ _ _ _ _ _ (v2.gr g) u) (by omega) m9 ⟨y0, y1, y2⟩)
  intro ex ac W hR
  cases ex
  case normal =>
    obtain ⟨_, _, _, _, s3, a3, n3, c3, e3, rfl, hb9, u3, gW⟩ := hR
    have nr9 := NoR.of m9 rfl
    have q8 := gW.keepH (by omega) m8
    have qt := gW.keepH (by omega) mt
    have q6 := gW.keepH (by omega) m6
    have q7 := gW.keepH (by omega) m7
    have v2' := v2.gx nr9 gW
    have GW : Hid (Gr w W) := gW.gr (by omega) GG.out
    clear y0 y1 y2
    obtain ⟨h0, h1, h2, h3, h4⟩ := out5 qt
    obtain ⟨i0, i1, i2⟩ := cells_ofT q8
    obtain ⟨j0, j1, j2⟩ := cells_ofT hb9
    obtain ⟨x0, x1, x2⟩ := cells_ofT q6
    obtain ⟨y0, y1, y2⟩ := open_ofT q6
    obtain ⟨p0, p1, p2⟩ := cells_ofT q7
    obtain ⟨r0, r1, r2⟩ := open_ofT q7
    go_wp2_with (fail)
    refine Code.wp_mono ?_ (reg778 _ _ _ _ _ _ _ _ _ _ _ _ _ _ _ _ _ _ _ _ _ _ _ _ _ _ _ _ _ w1.heap.size (w1.heap.size + 1) (w.heap.size + 1) (w.heap.size + 2) s2 a2 n2 c2 e2 s3 a3 n3 c3 e3 V (V + 1 * Un b) 200000 900000 w W GW.out v2' u3 (by omega) (by omega) (by omega) (by omega) (by omega) (by omega) (by omega) q6 q7 ⟨i0, i1, i2, j0, j1, j2⟩)
    intro ex ac X hX
    cases ex
    case normal =>
      obtain ⟨_, _, rfl, k6, k7, w2', w3', gX⟩ := hX
      obtain ⟨l0, l1, l2⟩ := cells_ofT k6
      obtain ⟨o0, o1, o2⟩ := cells_ofT k7
      go_wp2
      refine bodyPost_ret (v := .tuple #[.agg #[.bool s2, .slice a2 n2 c2, .int .i64 e2], .agg #[.bool s3, .slice a3 n3 c3, .int .i64 e3]]) ?_ rfl ⟨⟨_, _, _, _, _, _, _, _, _, _, rfl, w2', w3'⟩, gX⟩
      simp [results, Tryz.results77, go_sem, l0, l1, l2, o0, o1, o2]
    all_goals exact hX.elim
  all_goals exact hR.elim
end Go.Proofs.YthilajhciifhaaaGreatDoor
namespace Go.Proofs.YthilajhciifhaaaGreatDoor
open Go.RowKit
set_option linter.unusedVariables false
set_option linter.unusedSimpArgs false
theorem numTell (s : Bool) (ad : Option Addr) (n cap : Nat) (e V : Int) (L lo k : Nat) (w : World) (hx : Nu w s ad n cap e V L) (hL : L ≤ 1000000) (gV : Gd lo k V) (hlo : lo ≤ 100000) (hk : k ≤ 200000) :
    Calls Tryz.prog 99 #[.agg #[.bool s, .slice ad n cap, .int .i64 e]] w fun r w' => (∃ s1 a1 n1 c1 e1, r = .returned (.tuple #[.agg #[.bool s1, .slice a1 n1 c1, .int .i64 e1], .bool true]) ∧ DyV w' s1 a1 n1 c1 e1 V) ∧ Gr w w' := by
  have hkk := KK_eq
  obtain ⟨x, lx, vx, x1, x2, x3⟩ := hx
  refine (tell55 s ad n cap x e w lx (by omega) (by omega) (by omega)).mono ?_
  rintro r w' ⟨hT, hg⟩
  refine ⟨?_, hg⟩
  rcases hT with ⟨h0, rfl⟩ | ⟨t, q, ad', n', cap', hx', hf, rfl, hl, hn⟩ | ⟨t, q, hx', hf, rfl⟩
  · subst h0
    rw [sv_zero] at vx
    exact ⟨_, _, _, _, _, rfl, dyv_zero _ _ vx.symm⟩
  · have hS : Settled w' (.returned (.tuple #[.agg #[.bool s, .slice ad' n' cap', .int .i64 (e + (t : Int))], .int .i64 0])) s x e := Or.inr (Or.inl ⟨t, q, ad', n', cap', hx', hf, rfl, hl, hn⟩)
    obtain ⟨s2, a2, n2, c2, e2, he, hd⟩ := hS.dyv (lo := lo) (k := k) vx gV (by omega) hlo hk
    simp only [Ending.returned.injEq, Value.tuple.injEq, Array.mk.injEq, List.cons.injEq, Value.agg.injEq, Value.bool.injEq, Value.slice.injEq, Value.int.injEq, and_true, true_and] at he
    obtain ⟨rfl, ⟨rfl, rfl, rfl⟩, rfl⟩ := he
    exact ⟨_, _, _, _, _, rfl, hd⟩
  · exact absurd (gd_fits (by rw [← hx']; exact vx) gV (by omega) hlo hk) hf
set_option maxRecDepth 10000 in
set_option maxHeartbeats 4000000 in
theorem refTold (s1 : Bool) (a1 : Option Addr) (n1 c1 : Nat) (e1 : Int) (s2 : Bool) (a2 : Option Addr) (n2 c2 : Nat) (e2 : Int) (V U : Int) (L lo k : Nat) (w : World) (u1 : Nu w s1 a1 n1 c1 e1 V L) (u2 : Nu w s2 a2 n2 c2 e2 U L) (hL : L ≤ 1000000) (gV : Gd lo k V) (gU : Gd lo k U) (hlo : lo ≤ 100000) (hk : k ≤ 200000) :
    Calls Tryz.prog 78 #[.agg #[.bool s1, .slice a1 n1 c1, .int .i64 e1], .agg #[.bool s2, .slice a2 n2 c2, .int .i64 e2]] w fun r w' => (∃ v, r = .returned v ∧ Gv w' v V U) ∧ Gr w w' := by
  have TA : Hid _ := three_at w (.cells #[.bool s1, .slice a1 n1 c1, .int .i64 e1] 84) (.cells #[.bool s2, .slice a2 n2 c2, .int .i64 e2] 84) (.cells #[.bool false, .slice none 0 0, .int .i64 0, .bool false, .slice none 0 0, .int .i64 0] 51) _ rfl
  have T1 : Hid (∀ w1, Gr w w1 → Calls Tryz.prog 99 #[.agg #[.bool s1, .slice a1 n1 c1, .int .i64 e1]] w1 fun r w' => (∃ s3 a3 n3 c3 e3, r = .returned (.tuple #[.agg #[.bool s3, .slice a3 n3 c3, .int .i64 e3], .bool true]) ∧ DyV w' s3 a3 n3 c3 e3 V) ∧ Gr w1 w') := fun w1 g => numTell s1 a1 n1 c1 e1 V L lo k w1 (u1.gr g) hL gV hlo hk
  have T2 : Hid (∀ w1, Gr w w1 → Calls Tryz.prog 99 #[.agg #[.bool s2, .slice a2 n2 c2, .int .i64 e2]] w1 fun r w' => (∃ s3 a3 n3 c3 e3, r = .returned (.tuple #[.agg #[.bool s3, .slice a3 n3 c3, .int .i64 e3], .bool true]) ∧ DyV w' s3 a3 n3 c3 e3 U) ∧ Gr w1 w') := fun w1 g => numTell s2 a2 n2 c2 e2 U L lo k w1 (u2.gr g) hL gU hlo hk
  clear u1 u2 gV gU
  have G0 := hide TA.out.2.2.2.1
  obtain ⟨f0, f1, f2⟩ := cells_ofT TA.out.1
  obtain ⟨h0, h1, h2⟩ := cells_ofT TA.out.2.1
  have tok : True := trivial
  go_enter Tryz.func78, Tryz.ntmps78
  go_wp2_with (first
    | (go_at_call 99; have _t := tok; (with_reducible refine (T1.out _ G0.out).mono ?_); rintro r w1 ⟨⟨s3, a3, n3, c3, e3, rfl, d3⟩, g1⟩; clear tok; have ga := (Gr.refl w1).alloc (.cells #[.bool s3, .slice a3 n3 c3, .int .i64 e3] 24); have b1 := ga.keepH (g1.keepH TA.out.2.1); obtain ⟨i0, i1, i2⟩ := cells_ofT b1)
    | (go_at_call 99; (with_reducible refine (T2.out _ ((G0.out.trans g1).trans ga)).mono ?_); rintro r w2 ⟨⟨s4, a4, n4, c4, e4, rfl, d4⟩, g2⟩; have gb := (Gr.refl w2).alloc (.cells #[.bool s4, .slice a4 n4 c4, .int .i64 e4] 24); have k3 := gb.keepH (g2.keepH (new_at w1 (.cells #[.bool s3, .slice a3 n3 c3, .int .i64 e3] 24))); have kg := gb.keepH (g2.keepH (ga.keepH (g1.keepH TA.out.2.2.1))); have nr := NoR.of kg rfl; obtain ⟨j0, j1, j2⟩ := cells_ofT k3; obtain ⟨x0, x1, x2, x3, x4, x5, y0, y1, y2, y3, y4, y5⟩ := out6 kg))
  refine bodyPost_ret (v := .agg #[.bool s3, .slice a3 n3 c3, .int .i64 e3, .bool s4, .slice a4 n4 c4, .int .i64 e4]) ?_ rfl ⟨⟨_, rfl, _, _, _, _, _, _, _, _, _, _, rfl, (((d3.gr ga).gr g2).gr gb).gx nr (gx6 _ _ _ _ _ _ _ _), (d4.gr gb).gx nr (gx6 _ _ _ _ _ _ _ _)⟩, (gx6 _ _ _ _ _ _ _ _).gr (by omega) (((G0.out.trans g1).trans ga).trans (g2.trans gb))⟩
  simp [results, Tryz.results78, go_sem, x0, x1, x2, x3, x4, x5]
set_option maxRecDepth 10000 in
set_option maxHeartbeats 4000000 in
theorem refGap14 (V U : Int) (L lo k : Nat) (w : World) (hL : L ≤ 1000000) (gV : Gd lo k V) (gU : Gd lo k U) (hlo : lo ≤ 100000) (hk : k ≤ 200000)
    (EN : Hid (∀ w1, Gr w w1 → Calls Tryz.prog 77 #[.agg #[.bool false, .bool true, .bool false, .int .i64 0, .int .i64 1], .int .i64 14, .int .i64 2048] w1 fun r w' => (∃ s1 a1 n1 c1 e1 s2 a2 n2 c2 e2, r = .returned (.tuple #[.agg #[.bool s1, .slice a1 n1 c1, .int .i64 e1], .agg #[.bool s2, .slice a2 n2 c2, .int .i64 e2]]) ∧ Nu w' s1 a1 n1 c1 e1 V L ∧ Nu w' s2 a2 n2 c2 e2 U L) ∧ Gr w1 w')) :
    Calls Tryz.prog 32 #[.int .i64 14, .int .i64 1, .int .i64 2048, .bool true] w fun r w' => (∃ v, r = .returned (.tuple #[v, .int .i64 0]) ∧ Gv w' v V U) ∧ Gr w w' := by
  have RE : Hid (∀ w1, Calls Tryz.prog 76 #[.int .i64 14, .int .i64 1, .bool true] w1 fun r w' => r = .returned (.agg #[.bool false, .bool true, .bool false, .int .i64 0, .int .i64 1]) ∧ Gr w1 w') := fun w1 => reduce14 w1
  have TO : Hid (∀ w1 s1 a1 n1 c1 e1 s2 a2 n2 c2 e2, Nu w1 s1 a1 n1 c1 e1 V L → Nu w1 s2 a2 n2 c2 e2 U L → Calls Tryz.prog 78 #[.agg #[.bool s1, .slice a1 n1 c1, .int .i64 e1], .agg #[.bool s2, .slice a2 n2 c2, .int .i64 e2]] w1 fun r w' => (∃ v, r = .returned v ∧ Gv w' v V U) ∧ Gr w1 w') := fun w1 s1 a1 n1 c1 e1 s2 a2 n2 c2 e2 x y => refTold s1 a1 n1 c1 e1 s2 a2 n2 c2 e2 V U L lo k w1 x y hL gV gU hlo hk
  have g0 : Hid _ := (Gr.refl w).alloc (.cells #[.bool false, .slice none 0 0, .int .i64 0, .bool false, .slice none 0 0, .int .i64 0] 51)
  have kb0 : Hid _ := new_at w (.cells #[.bool false, .slice none 0 0, .int .i64 0, .bool false, .slice none 0 0, .int .i64 0] 51)
  clear gV gU
  go_enter Tryz.func32, Tryz.ntmps32
  go_wp2_with (first
    | (go_at_call 76; (with_reducible refine (RE.out _).mono ?_); rintro r w1 ⟨rfl, g1⟩)
    | (go_at_call 77; (with_reducible refine (EN.out _ (g0.out.trans g1)).mono ?_); rintro r w2 ⟨⟨s1, a1, n1, c1, e1, s2, a2, n2, c2, e2, rfl, u1, u2⟩, g2⟩))
  have gA : Gr w2 ((w2.alloc (.cells #[.bool s1, .slice a1 n1 c1, .int .i64 e1] 84)).alloc (.cells #[.bool s2, .slice a2 n2 c2, .int .i64 e2] 84)) := gr2 _ _
  refine (TO.out _ _ _ _ _ _ _ _ _ _ _ (u1.gr gA) (u2.gr gA)).mono ?_
  rintro r w3 ⟨⟨_, rfl, s3, a3, n3, c3, e3, s4, a4, n4, c4, e4, rfl, d3, d4⟩, g3⟩
  have kg := g3.keepH (gA.keepH (g2.keepH (g1.keepH kb0.out)))
  have nr := NoR.of kg rfl
  obtain ⟨x0, x1, x2, x3, x4, x5, y0, y1, y2, y3, y4, y5⟩ := out6 kg
  go_wp2
  refine bodyPost_ret (v := .tuple #[.agg #[.bool s3, .slice a3 n3 c3, .int .i64 e3, .bool s4, .slice a4 n4 c4, .int .i64 e4], .int .i64 0]) ?_ rfl ⟨⟨_, rfl, _, _, _, _, _, _, _, _, _, _, rfl, d3.gx nr (gx6 _ _ _ _ _ _ _ _), d4.gx nr (gx6 _ _ _ _ _ _ _ _)⟩, (gx6 _ _ _ _ _ _ _ _).gr (Nat.le_refl _) ((((g0.out.trans g1).trans g2).trans gA).trans g3)⟩
  simp [results, Tryz.results32, go_sem, x0, x1, x2, x3, x4, x5]
end Go.Proofs.YthilajhciifhaaaGreatDoor
namespace Go.Proofs.YthilajhciifhaaaGreatDoor
set_option linter.unusedVariables false
/-- a whole root, by Newton's steps from above: it is checked wherever it is used -/
def nsq (n : Nat) : Nat → Nat → Nat
  | 0, x => x
  | f + 1, x => let y := (x + n / x) / 2; if y < x then nsq n f y else x
def sqN (n : Nat) : Nat := nsq n 40 (2 ^ (n.log2 / 2 + 1))
/-- cosines from a quarter turn down by halves, counted in 2^-P -/
def rtN (P : Nat) : Nat → Nat
  | 0 => 0
  | k + 1 => sqN ((2 ^ P + rtN P k) * 2 ^ (P - 1))
def siN (P k : Nat) : Nat := sqN ((2 ^ P - rtN P k) * 2 ^ (P - 1))
def isRoot (n r : Nat) : Bool := decide (r * r ≤ n) && decide (n < (r + 1) * (r + 1))
/-- all that is wanted of the numbers at P bits, to the twelfth halving -/
def chainOk (P : Nat) : Nat → Nat → Bool
  | 0, _ => true
  | f + 1, a => let r := sqN ((2 ^ P + a) * 2 ^ (P - 1)); let s := sqN ((2 ^ P - a) * 2 ^ (P - 1)); decide (a ≤ 2 ^ P) && isRoot ((2 ^ P + a) * 2 ^ (P - 1)) r && isRoot ((2 ^ P - a) * 2 ^ (P - 1)) s && chainOk P f r
theorem chain2080 : chainOk 2080 12 0 = true := by decide +kernel
theorem chain2128 : chainOk 2128 12 0 = true := by decide +kernel
end Go.Proofs.YthilajhciifhaaaGreatDoor
namespace Go.Proofs.YthilajhciifhaaaGreatDoor
set_option linter.unusedVariables false
theorem isRoot_spec {n r : Nat} (h : isRoot n r = true) : r * r ≤ n ∧ n < (r + 1) * (r + 1) := by
  unfold isRoot at h
  rw [Bool.and_eq_true] at h
  exact ⟨of_decide_eq_true h.1, of_decide_eq_true h.2⟩
theorem chain_halves (P : Nat) : ∀ n j, chainOk P n (rtN P j) = true → ∀ i, i < n → HalfR P (rtN P (j + i)) (rtN P (j + i + 1)) (siN P (j + i)) := by
  intro n
  induction n with
  | zero => intro j _ i hi; omega
  | succ n ih =>
    intro j h i hi
    have h' : (decide (rtN P j ≤ 2 ^ P) && isRoot ((2 ^ P + rtN P j) * 2 ^ (P - 1)) (rtN P (j + 1)) && isRoot ((2 ^ P - rtN P j) * 2 ^ (P - 1)) (siN P j) && chainOk P n (rtN P (j + 1))) = true := h
    rw [Bool.and_eq_true, Bool.and_eq_true, Bool.and_eq_true] at h'
    obtain ⟨⟨⟨h1, h2⟩, h3⟩, h4⟩ := h'
    cases i with
    | zero => exact ⟨of_decide_eq_true h1, (isRoot_spec h2).1, (isRoot_spec h2).2, (isRoot_spec h3).1, (isRoot_spec h3).2⟩
    | succ i =>
      have := ih (j + 1) h4 i (by omega)
      rwa [show j + 1 + i = j + (i + 1) by omega] at this
theorem half2080 (i : Nat) (hi : i < 12) : HalfR 2080 (rtN 2080 i) (rtN 2080 (i + 1)) (siN 2080 i) := by
  have := chain_halves 2080 12 0 chain2080 i hi
  rwa [Nat.zero_add] at this
theorem half2128 (i : Nat) (hi : i < 12) : HalfR 2128 (rtN 2128 i) (rtN 2128 (i + 1)) (siN 2128 i) := by
  have := chain_halves 2128 12 0 chain2128 i hi
  rwa [Nat.zero_add] at this
theorem toNat_add (P A : Nat) : (((2 ^ P : Nat) : Int) + (A : Int)).toNat = 2 ^ P + A := by rw [← Int.natCast_add, Int.toNat_natCast]
theorem toNat_sub {P A : Nat} (h : A ≤ 2 ^ P) : (((2 ^ P : Nat) : Int) + -(A : Int)).toNat = 2 ^ P - A := by omega
/-- the cosines of the angles that come of a quarter by halves -/
theorem cos_chain (P : Nat) (hh : ∀ i, i < 12 → HalfR P (rtN P i) (rtN P (i + 1)) (siN P i)) : ∀ k, k ≤ 12 → CosN P (2 ^ (12 - k)) ((rtN P k : Nat) : Int) := by
  intro k
  induction k with
  | zero =>
    intro _
    have := CosN.quarter (P := P) 4096 (by decide)
    have h0 : cq ((4096 / 4096 : Nat) : Int) * ((2 ^ P : Nat) : Int) = ((rtN P 0 : Nat) : Int) := by
      rw [show cq ((4096 / 4096 : Nat) : Int) = 0 by decide, Int.zero_mul]
      rfl
    rw [h0] at this
    exact this
  | succ k ih =>
    intro hk
    have h := hh k (by omega)
    have hp : 2 * 2 ^ (12 - (k + 1)) = 2 ^ (12 - k) := by
      rw [show 12 - k = (12 - (k + 1)) + 1 by omega, Nat.pow_succ, Nat.mul_comm]
    have hlt : 2 ^ (12 - (k + 1)) < 4096 := by
      have := Nat.pow_le_pow_right (n := 2) (by omega) (show 12 - (k + 1) ≤ 11 by omega)
      omega
    have hpos := Nat.two_pow_pos (12 - (k + 1))
    have hc := ih (by omega)
    rw [← hp] at hc
    have := CosN.half (P := P) (2 ^ (12 - (k + 1))) _ (rtN P (k + 1)) (by omega) hc (by rw [toNat_add]; exact h.r1) (by rw [toNat_add]; exact h.r2)
    rw [show 2 ^ (12 - (k + 1)) / 4096 = 0 by omega] at this
    exact this
theorem cos2080 : CosN 2080 2 ((rtN 2080 11 : Nat) : Int) := cos_chain 2080 half2080 11 (by omega)
/-- the numbers at (14, 1, 2048): both sides of both gaps alike, and the document's the same -/
theorem num_cos : (((rtN 2080 12 : Nat) : Int) - 8192) / 4294967296 = (((rtN 2080 12 : Nat) : Int) + 8192) / 4294967296 := by decide +kernel
theorem num_sin : (((siN 2080 11 : Nat) : Int) - 8192) / 4294967296 = (((siN 2080 11 : Nat) : Int) + 8192) / 4294967296 := by decide +kernel
theorem num_ref : (((siN 2128 11 : Nat) : Int) - 2 ^ 40) / 1208925819614629174706176 = (((siN 2128 11 : Nat) : Int) + 2 ^ 40) / 1208925819614629174706176 := by decide +kernel
theorem num_same : (((siN 2080 11 : Nat) : Int) - 8192) / 4294967296 = (((siN 2128 11 : Nat) : Int) - 2 ^ 40) / 1208925819614629174706176 := by decide +kernel
theorem num_up : -((-(((siN 2080 11 : Nat) : Int) + 8192)) / 4294967296) = (((siN 2128 11 : Nat) : Int) - 2 ^ 40) / 1208925819614629174706176 + 1 := by decide +kernel
end Go.Proofs.YthilajhciifhaaaGreatDoor
namespace Go.Proofs.YthilajhciifhaaaGreatDoor
open Go.RowKit
set_option linter.unusedVariables false
theorem cut32 (C : Int) (P b : Nat) (hP : P = b + 32) (hb : b ≤ 2048) : cutI (C * Un P) b false = C / 4294967296 := by
  have := cutI_un C P b false (by omega) (by omega)
  rw [show P - b = 32 by omega] at this
  exact this
theorem cut32u (C : Int) (P b : Nat) (hP : P = b + 32) (hb : b ≤ 2048) : cutI (C * Un P) b true = -((-C) / 4294967296) := by
  have := cutI_un C P b true (by omega) (by omega)
  rw [show P - b = 32 by omega] at this
  exact this
theorem gd_near {P A : Nat} {d : Int} (h : A ≤ 2 ^ P) (h1 : -8192 ≤ d) (h2 : d ≤ 8192) : Gd P (P + 20) (((A : Int) + d) * Un P) := by
  refine gd_un ?_
  have h3 : 2 ^ P + 8192 < 2 ^ (P + 20) := by
    have := Nat.two_pow_pos P
    rw [Nat.pow_add]
    omega
  omega
/-- the sine of the order 14 at the step 1, by what the numbers are at P bits -/
theorem sinG (P b a r s : Nat) (K : Int) (w : World) (hT : TabAt 1 Lib.deBruijn64tab w) (hP : P = b + 32) (hb : b ≤ 2048) (h : HalfR P a r s) (hc : CosN P 2 (a : Int))
    (n1 : ((r : Int) - 8192) / 4294967296 = ((r : Int) + 8192) / 4294967296) (n2 : ((s : Int) - 8192) / 4294967296 = ((s : Int) + 8192) / 4294967296) (n3 : ((s : Int) - 8192) / 4294967296 = K) (n4 : -((-((s : Int) + 8192)) / 4294967296) = K + 1) :
    Calls Tryz.prog 27 #[.int .i64 14, .int .i64 1, .int .i64 (b : Int)] w fun r w' => (∃ v, r = .returned (.tuple #[v, .int .i64 0]) ∧ Gv w' v (K * Un b) ((K + 1) * Un b)) ∧ Gr w w' := by
  have hR := sq_small (by omega) (show 2 ^ P + a ≤ 2 * 2 ^ P by have := h.small; omega) h.r1
  have hS := sq_small (by omega) (show 2 ^ P - a ≤ 2 * 2 ^ P by omega) h.s1
  have hmod : ((1 : Int) * ((2 ^ (14 - 14) : Nat) : Int)) % 16384 = 1 := by decide
  refine (angSin 14 1 (b : Int) _ _ _ _ w (fun w1 g1 => cutBoxW 14 b P (P + 20) 1 1 (((r : Int) - 8192) * Un P) (((r : Int) + 8192) * Un P) (((s : Int) - 8192) * Un P) (((s : Int) + 8192) * Un P) w1 (tab_gr hT g1) (by omega) (by omega) hmod (fun B w2 g2 rk => ?_) ?_ ?_ ?_ ?_ (by omega) (by omega) ?_ ?_)).mono ?_
  · have := boxH B P 1 r s (a : Int) w2 rk (tab_gr hT (g1.trans g2)) hc (by omega) (by omega) (by omega) (by omega) (by rw [toNat_add]; exact h.r1) (by rw [toNat_add]; exact h.r2) (by rw [toNat_sub h.small]; exact h.s1) (by rw [toNat_sub h.small]; exact h.s2) (r : Int) (s : Int) rfl rfl
    rw [show (P : Int) = (b : Int) + 32 by omega] at this
    exact this
  · exact gd_near (d := -8192) hR (by omega) (by omega)
  · exact gd_near hR (by omega) (by omega)
  · exact gd_near (d := -8192) hS (by omega) (by omega)
  · exact gd_near hS (by omega) (by omega)
  · rw [cut32 _ P b hP hb, cut32 _ P b hP hb, n1, Int.sub_self]
  · rw [cut32 _ P b hP hb, cut32 _ P b hP hb, n2, Int.sub_self]
  · rintro r' w' ⟨⟨v, rfl, hv⟩, hg⟩
    rw [cut32 _ P b hP hb, cut32u _ P b hP hb, n3, n4] at hv
    exact ⟨⟨v, rfl, hv⟩, hg⟩
/-- the sine of the order 14 at the step 1, cut to 2^-2048 -/
def KS : Int := (((siN 2128 11 : Nat) : Int) - 2 ^ 40) / 1208925819614629174706176
theorem sin14 (w : World) (hT : TabAt 1 Lib.deBruijn64tab w) :
    Calls Tryz.prog 27 #[.int .i64 14, .int .i64 1, .int .i64 2048] w fun r w' => (∃ v, r = .returned (.tuple #[v, .int .i64 0]) ∧ Gv w' v (KS * Un 2048) ((KS + 1) * Un 2048)) ∧ Gr w w' :=
  sinG 2080 2048 (rtN 2080 11) (rtN 2080 12) (siN 2080 11) KS w hT rfl (by omega) (half2080 11 (by omega)) cos2080 num_cos num_sin num_same num_up
end Go.Proofs.YthilajhciifhaaaGreatDoor
