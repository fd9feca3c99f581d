import Derived.Test.YthilajhciifhaaaGreatDoorM28
import Derived.Test.YthilajhciifhaaaGreatDoorM10
import Derived.Deep.RegionHeld3
namespace Go.Proofs.YthilajhciifhaaaGreatDoor
open Go.RowKit
set_option linter.unusedVariables false
set_option maxRecDepth 10000 in
set_option maxHeartbeats 1600000 in
theorem angCut (B : Nat) (s : Bool) (ad : Option Addr) (n cap : Nat) (e V : Int) (b lo k : Nat) (up : Bool) (w : World) (h : Rk w B) (d : DyV w s ad n cap e V) (hT : TabAt 1 Lib.deBruijn64tab w) (gV : Gd lo k V) (hlo : lo ≤ 100000) (hk : k < 200000) (hb : b ≤ 100000) :
    Calls Tryz.prog 123 #[.pointer (some ⟨B, 0, none⟩), .agg #[.bool s, .slice ad n cap, .int .i64 e], .int .i64 (b : Int), .bool up] w fun r w' => Dv w' r (cutI V b up * Un b) ∧ Gr w w' := by
  have kb0 : Hid _ := second_block w (.cells #[.bool s, .slice ad n cap, .int .i64 e] 24) (.cells #[.bool false, .slice none 0 0, .int .i64 0] 24)
  have K : Hid _ := keeps h
  have N : Hid (∀ w1, Gr w w1 → Calls Tryz.prog 14 #[.agg #[.bool s, .slice ad n cap, .int .i64 e], .int .i64 (-(b : Int)), .bool up] w1 fun r w' => DvT w' r (cutI V b up * Un b) ∧ Gr w1 w') := fun w1 g => cutD s up ad n cap e V b lo k w1 (d.gr g) (tab_gr hT g) gV hlo hk hb
  clear h d hT gV
  go_enter Tryz.func123, Tryz.ntmps123
  go_wp2_with (first
    | (go_at_call 14; (with_reducible refine (N.out _ (gr2 _ _)).mono ?_); rintro r w1 ⟨⟨s', ad', n', cap', e', rfl, d1⟩, g1⟩; have kb1 := g1.keepH kb0.out)
    | (go_at_call 160; (with_reducible refine (K.out _ _ _ _ _ _ ((gr2 _ _).trans g1)).mono ?_); rintro r w2 ⟨rfl, g2⟩; have kb2 := g2.keepH kb1; obtain ⟨t0, t1, t2, u0, u1, u2⟩ := Out3.of kb2))
  refine bodyPost_ret (v := .agg #[.bool s', .slice ad' n' cap', .int .i64 e']) ?_ rfl ⟨⟨_, _, _, _, _, rfl, (d1.gr g2).put kb2 _ _ _⟩, gr2s (((gr2 _ _).trans g1).trans g2) _ _ _⟩
  simp [results, Tryz.results123, go_sem, t0, t1, t2]
theorem sg_is_zero (x : Int) : (sg x == 0) = decide (x = 0) := by
  unfold sg
  rcases Int.lt_trichotomy x 0 with h | h | h
  · rw [if_pos h, decide_eq_false (by omega)]; rfl
  · rw [if_neg (by omega), if_pos h, decide_eq_true h]; rfl
  · rw [if_neg (by omega), if_neg (by omega), decide_eq_false (by omega)]; rfl
set_option maxRecDepth 10000 in
set_option maxHeartbeats 1600000 in
theorem angEqual (B : Nat) (s t : Bool) (ad1 ad2 : Option Addr) (n1 n2 c1 c2 : Nat) (e f U V : Int) (w : World) (h : Rk w B) (hx : DyV w s ad1 n1 c1 e U) (hy : DyV w t ad2 n2 c2 f V) :
    Calls Tryz.prog 122 #[.pointer (some ⟨B, 0, none⟩), .agg #[.bool s, .slice ad1 n1 c1, .int .i64 e], .agg #[.bool t, .slice ad2 n2 c2, .int .i64 f]] w fun r w' => r = .returned (.bool (decide (U - V = 0))) ∧ Gr w w' := by
  have N : Hid (∀ w1, Gr w w1 → Calls Tryz.prog 126 #[.pointer (some ⟨B, 0, none⟩), .int .i64 0] w1 fun r w' => r = .returned (.tuple #[]) ∧ w' = w1) := fun w1 g => note B w1 (h.gr g)
  have C : Hid (∀ w1, Gr w w1 → Calls Tryz.prog 16 #[.agg #[.bool s, .slice ad1 n1 c1, .int .i64 e], .agg #[.bool t, .slice ad2 n2 c2, .int .i64 f]] w1 fun r w' => r = .returned (.tuple #[.int .i64 (sg (U - V)), .int .i64 0]) ∧ Gr w1 w') := fun w1 g => cmpG s t ad1 ad2 n1 n2 c1 c2 e f U V w1 (hx.gr g) (hy.gr g)
  clear h hx hy
  generalize U - V = D at *
  go_enter Tryz.func122, Tryz.ntmps122
  go_wp2_with (first
    | (go_at_call 16; (with_reducible refine (C.out _ (gr2 _ _)).mono ?_); rintro r w1 ⟨rfl, g1⟩)
    | (go_at_call 126; (with_reducible refine (N.out _ ((gr2 _ _).trans g1)).mono ?_); rintro r _ ⟨rfl, rfl⟩))
  go_ret
  refine ⟨?_, (gr2 _ _).trans g1⟩
  show Ending.returned (Value.bool _) = _
  rw [← sg_is_zero]
end Go.Proofs.YthilajhciifhaaaGreatDoor
namespace Go.Proofs.YthilajhciifhaaaGreatDoor
open Go.RowKit
set_option linter.unusedVariables false
set_option linter.unusedSimpArgs false
def R124 (t1 t3 t5 t7 t8 t9 t10 t11 t12 t13 t14 t15 t16 t17 : Value) (B bI bG b : Nat) (s1 : Bool) (a1 : Option Addr) (n1 c1 : Nat) (e1 : Int) (s2 : Bool) (a2 : Option Addr) (n2 c2 : Nat) (e2 : Int) (V1 V2 : Int) (wq : World) : Exit → Act → World → Prop
  | .normal, a, w => ∃ u7 u8 u9 u10 u11 u12 u13 u14 u15 u16 u17 s3 a3 n3 c3 e3 s4 a4 n4 c4 e4, a = { tmps := #[.pointer (some ⟨B, 0, none⟩), t1, .int .i64 (b : Int), t3, .pointer (some ⟨bI, 0, none⟩), t5, .pointer (some ⟨bG, 0, none⟩), u7, u8, u9, u10, u11, u12, u13, u14, u15, u16, u17], defers := [] } ∧ w.heap[bG]? = some (.cells #[.bool s3, .slice a3 n3 c3, .int .i64 e3, .bool s4, .slice a4 n4 c4, .int .i64 e4] 51) ∧ DyV w s3 a3 n3 c3 e3 V1 ∧ DyV w s4 a4 n4 c4 e4 V2 ∧ Gx bG wq w
  | _, _, _ => False
set_option maxRecDepth 100000 in
set_option maxHeartbeats 40000000 in
theorem reg124 (t1 t3 t5 t7 t8 t9 t10 t11 t12 t13 t14 t15 t16 t17 : Value) (B bI bG b : Nat) (s1 : Bool) (a1 : Option Addr) (n1 c1 : Nat) (e1 : Int) (s2 : Bool) (a2 : Option Addr) (n2 c2 : Nat) (e2 : Int) (V1 V2 : Int) (wq : World)
    (CL : Hid (∀ w1, Gr wq w1 → Calls Tryz.prog 123 #[.pointer (some ⟨B, 0, none⟩), .agg #[.bool s1, .slice a1 n1 c1, .int .i64 e1], .int .i64 (b : Int), .bool false] w1 fun r w' => Dv w' r V1 ∧ Gr w1 w'))
    (CH : Hid (∀ w1, Gr wq w1 → Calls Tryz.prog 123 #[.pointer (some ⟨B, 0, none⟩), .agg #[.bool s2, .slice a2 n2 c2, .int .i64 e2], .int .i64 (b : Int), .bool true] w1 fun r w' => Dv w' r V2 ∧ Gr w1 w'))
    (hne_bI : bI ≠ bG) (hbG : wq.heap[bG]? = some (.cells #[.bool false, .slice none 0 0, .int .i64 0, .bool false, .slice none 0 0, .int .i64 0] 51)) (hcs : (wq.cell? ⟨bI, 0, none⟩ = some (.bool s1) ∧ wq.cell? ⟨bI, 1, none⟩ = some (.slice a1 n1 c1) ∧ wq.cell? ⟨bI, 2, none⟩ = some (.int .i64 e1) ∧ wq.cell? ⟨bI, 3, none⟩ = some (.bool s2) ∧ wq.cell? ⟨bI, 4, none⟩ = some (.slice a2 n2 c2) ∧ wq.cell? ⟨bI, 5, none⟩ = some (.int .i64 e2))) :
    Code.wp Tryz.prog (Code.region 1 #[{ dst := some 7, op := Op.move (Operand.tmp 0), type := 147, pos := "reckoner.go:79", after := #[], guard := none }, { dst := some 8, op := Op.fieldAddr 51 (Operand.tmp 4) 0, type := 0, pos := "reckoner.go:79", after := #[], guard := none }, { dst := some 9, op := Op.load 24 (Operand.tmp 8), type := 24, pos := "reckoner.go:79", after := #[{ on := 1, ground := Ground.data }], guard := none }, { dst := some 10, op := Op.move (Operand.tmp 2), type := 3, pos := "reckoner.go:79", after := #[], guard := none }, { dst := some 11, op := Op.call { callee := Callee.value (Operand.func 123), args := #[Operand.tmp 7, Operand.tmp 9, Operand.tmp 10, Operand.const (Value.bool false)], argTypes := #[147, 24, 3, 4] }, type := 24, pos := "reckoner.go:79", after := #[{ on := 0, ground := Ground.data }, { on := 2, ground := Ground.data }, { on := 3, ground := Ground.data }], guard := none }, { dst := some 12, op := Op.move (Operand.tmp 0), type := 147, pos := "reckoner.go:79", after := #[], guard := none }, { dst := some 13, op := Op.fieldAddr 51 (Operand.tmp 4) 1, type := 0, pos := "reckoner.go:79", after := #[], guard := none }, { dst := some 14, op := Op.load 24 (Operand.tmp 13), type := 24, pos := "reckoner.go:79", after := #[{ on := 6, ground := Ground.data }], guard := none }, { dst := some 15, op := Op.move (Operand.tmp 2), type := 3, pos := "reckoner.go:79", after := #[], guard := none }, { dst := some 16, op := Op.call { callee := Callee.value (Operand.func 123), args := #[Operand.tmp 12, Operand.tmp 14, Operand.tmp 15, Operand.const (Value.bool true)], argTypes := #[147, 24, 3, 4] }, type := 24, pos := "reckoner.go:79", after := #[{ on := 5, ground := Ground.data }, { on := 7, ground := Ground.data }, { on := 8, ground := Ground.data }, { on := 4, ground := Ground.chain }], guard := none }, { dst := some 17, op := Op.build 51 #[(0, Operand.tmp 11), (1, Operand.tmp 16)], type := 51, pos := "reckoner.go:79", after := #[{ on := 4, ground := Ground.data }, { on := 9, ground := Ground.data }], guard := none }, { dst := none, op := Op.store 51 (Operand.tmp 6) (Operand.tmp 17), type := 0, pos := "reckoner.go:79", after := #[{ on := 10, ground := Ground.data }, { on := 9, ground := Ground.chain }, { on := 0, ground := Ground.phase }, { on := 1, ground := Ground.phase }, { on := 2, ground := Ground.phase }, { on := 3, ground := Ground.phase }, { on := 4, ground := Ground.phase }, { on := 5, ground := Ground.phase }, { on := 6, ground := Ground.phase }, { on := 7, ground := Ground.phase }, { on := 8, ground := Ground.phase }, { on := 9, ground := Ground.phase }, { on := 10, ground := Ground.phase }], guard := none }] true) (R124 t1 t3 t5 t7 t8 t9 t10 t11 t12 t13 t14 t15 t16 t17 B bI bG b s1 a1 n1 c1 e1 s2 a2 n2 c2 e2 V1 V2 wq) { tmps := #[.pointer (some ⟨B, 0, none⟩), t1, .int .i64 (b : Int), t3, .pointer (some ⟨bI, 0, none⟩), t5, .pointer (some ⟨bG, 0, none⟩), t7, t8, t9, t10, t11, t12, t13, t14, t15, t16, t17], defers := [] } wq := by
  have hS0 : (wq.drew.cell? ⟨bI, 0, none⟩ = some (.bool s1) ∧ wq.drew.cell? ⟨bI, 1, none⟩ = some (.slice a1 n1 c1) ∧ wq.drew.cell? ⟨bI, 2, none⟩ = some (.int .i64 e1) ∧ wq.drew.cell? ⟨bI, 3, none⟩ = some (.bool s2) ∧ wq.drew.cell? ⟨bI, 4, none⟩ = some (.slice a2 n2 c2) ∧ wq.drew.cell? ⟨bI, 5, none⟩ = some (.int .i64 e2)) ∧ Gx bG wq wq.drew := ⟨hcs, Gx.of_gr (Gr.refl wq).drew⟩
  have hbG0 : wq.drew.heap[bG]? = some (.cells #[.bool false, .slice none 0 0, .int .i64 0, .bool false, .slice none 0 0, .int .i64 0] 51) := hbG
  have hg0 : Gr wq wq.drew := (Gr.refl wq).drew
  clear hcs
  refine wp_region_held_drew (S := fun w' => (w'.cell? ⟨bI, 0, none⟩ = some (.bool s1) ∧ w'.cell? ⟨bI, 1, none⟩ = some (.slice a1 n1 c1) ∧ w'.cell? ⟨bI, 2, none⟩ = some (.int .i64 e1) ∧ w'.cell? ⟨bI, 3, none⟩ = some (.bool s2) ∧ w'.cell? ⟨bI, 4, none⟩ = some (.slice a2 n2 c2) ∧ w'.cell? ⟨bI, 5, none⟩ = some (.int .i64 e2)) ∧ Gx bG wq w') (by kernel_rfl) hS0 (fun hHeld => ?_)
  clear hS0
  generalize wq.drew = wd at *
  refine wpAnyH_take (i := 0) (oi := _) (v := ?_) rfl (by kernel_rfl) (by kernel_rfl) (by kernel_rfl) (fun _ _ _ h => h) (Or.inl ⟨by rfl, ?_⟩) (by with_reducible assumption) ?_
  rotate_left
  · intro w hSw
    (try dsimp only at hSw)
    first | (go_simp; done) | (go_simp; with_reducible rfl)
  (try simp only [Act.put, List.setIfInBounds_toArray, List.set_cons_zero, List.set_cons_succ])
  refine wpAnyH_take (i := 1) (oi := _) (v := ?_) rfl (by kernel_rfl) (by kernel_rfl) (by kernel_rfl) (fun _ _ _ h => h) (Or.inl ⟨by rfl, ?_⟩) (by with_reducible assumption) ?_
  rotate_left
  · intro w hSw
    (try dsimp only at hSw)
    first | (go_simp; done) | (go_simp; with_reducible rfl)
  (try simp only [Act.put, List.setIfInBounds_toArray, List.set_cons_zero, List.set_cons_succ])
  refine wpAnyH_take (i := 2) (oi := _) (v := ?_) rfl (by kernel_rfl) (by kernel_rfl) (by kernel_rfl) (fun _ _ _ h => h) (Or.inl ⟨by rfl, ?_⟩) (by with_reducible assumption) ?_
  rotate_left
  · intro w hSw
    (try dsimp only at hSw)
    first | (go_simp; done) | (go_simp; with_reducible rfl)
  (try simp only [Act.put, List.setIfInBounds_toArray, List.set_cons_zero, List.set_cons_succ])
  refine wpAnyH_take (i := 3) (oi := _) (v := ?_) rfl (by kernel_rfl) (by kernel_rfl) (by kernel_rfl) (fun _ _ _ h => h) (Or.inl ⟨by rfl, ?_⟩) (by with_reducible assumption) ?_
  rotate_left
  · intro w hSw
    (try dsimp only at hSw)
    first | (go_simp; done) | (go_simp; with_reducible rfl)
  (try simp only [Act.put, List.setIfInBounds_toArray, List.set_cons_zero, List.set_cons_succ])
  refine wpAnyH_take (i := 5) (oi := _) (v := ?_) rfl (by kernel_rfl) (by kernel_rfl) (by kernel_rfl) (fun _ _ _ h => h) (Or.inl ⟨by rfl, ?_⟩) (by with_reducible assumption) ?_
  rotate_left
  · intro w hSw
    (try dsimp only at hSw)
    first | (go_simp; done) | (go_simp; with_reducible rfl)
  (try simp only [Act.put, List.setIfInBounds_toArray, List.set_cons_zero, List.set_cons_succ])
  refine wpAnyH_take (i := 6) (oi := _) (v := ?_) rfl (by kernel_rfl) (by kernel_rfl) (by kernel_rfl) (fun _ _ _ h => h) (Or.inl ⟨by rfl, ?_⟩) (by with_reducible assumption) ?_
  rotate_left
  · intro w hSw
    (try dsimp only at hSw)
    first | (go_simp; done) | (go_simp; with_reducible rfl)
  (try simp only [Act.put, List.setIfInBounds_toArray, List.set_cons_zero, List.set_cons_succ])
  refine wpAnyH_take (i := 7) (oi := _) (v := ?_) rfl (by kernel_rfl) (by kernel_rfl) (by kernel_rfl) (fun _ _ _ h => h) (Or.inl ⟨by rfl, ?_⟩) (by with_reducible assumption) ?_
  rotate_left
  · intro w hSw
    (try dsimp only at hSw)
    first | (go_simp; done) | (go_simp; with_reducible rfl)
  (try simp only [Act.put, List.setIfInBounds_toArray, List.set_cons_zero, List.set_cons_succ])
  refine wpAnyH_take (i := 8) (oi := _) (v := ?_) rfl (by kernel_rfl) (by kernel_rfl) (by kernel_rfl) (fun _ _ _ h => h) (Or.inl ⟨by rfl, ?_⟩) (by with_reducible assumption) ?_
  rotate_left
  · intro w hSw
    (try dsimp only at hSw)
    first | (go_simp; done) | (go_simp; with_reducible rfl)
  (try simp only [Act.put, List.setIfInBounds_toArray, List.set_cons_zero, List.set_cons_succ])
  refine wpAnyH_ready (rs := [4]) (by kernel_rfl) (by simp) ?_
  refine AllReadyH.cons (o := _) rfl (fun K hK => ?_) AllReadyH.nil
  go_simp
  refine (CL.out _ hg0).mono ?_
  rintro r wc1 ⟨⟨s3, a3, n3, c3, e3, rfl, d1_4⟩, gg3⟩
  refine hK.out _ _ ⟨⟨gg3.keep hHeld.1.1, gg3.keep hHeld.1.2.1, gg3.keep hHeld.1.2.2.1, gg3.keep hHeld.1.2.2.2.1, gg3.keep hHeld.1.2.2.2.2.1, gg3.keep hHeld.1.2.2.2.2.2⟩, hHeld.2.trans (Gx.of_gr gg3)⟩ (fun hH2 => ?_)
  clear hK K
  (try simp only [Act.put, List.setIfInBounds_toArray, List.set_cons_zero, List.set_cons_succ])
  have bG_5 := gg3.keepH hbG0
  clear hbG0
  have gq6 := hg0.trans gg3
  clear hg0
  refine wpAnyH_ready (rs := [9]) (by kernel_rfl) (by simp) ?_
  refine AllReadyH.cons (o := _) rfl (fun K hK => ?_) AllReadyH.nil
  go_simp
  refine (CH.out _ gq6).mono ?_
  rintro r wc7 ⟨⟨s4, a4, n4, c4, e4, rfl, d2_10⟩, gg9⟩
  refine hK.out _ _ ⟨⟨gg9.keep hH2.1.1, gg9.keep hH2.1.2.1, gg9.keep hH2.1.2.2.1, gg9.keep hH2.1.2.2.2.1, gg9.keep hH2.1.2.2.2.2.1, gg9.keep hH2.1.2.2.2.2.2⟩, hH2.2.trans (Gx.of_gr gg9)⟩ (fun hH8 => ?_)
  clear hK K
  (try simp only [Act.put, List.setIfInBounds_toArray, List.set_cons_zero, List.set_cons_succ])
  have bG_11 := gg9.keepH bG_5
  clear bG_5
  have d1_12 := d1_4.gr gg9
  clear d1_4
  have gq13 := gq6.trans gg9
  clear gq6
  refine wpAnyH_take (i := 10) (oi := _) (v := ?_) rfl (by kernel_rfl) (by kernel_rfl) (by kernel_rfl) (fun _ _ _ h => h) (Or.inl ⟨by rfl, ?_⟩) (by with_reducible assumption) ?_
  rotate_left
  · intro w hSw
    (try dsimp only at hSw)
    first | (go_simp; done) | (go_simp; with_reducible rfl)
  (try simp only [Act.put, List.setIfInBounds_toArray, List.set_cons_zero, List.set_cons_succ])
  refine wpAnyH_ready (rs := [11]) (by kernel_rfl) (by simp) ?_
  refine AllReadyH.cons (o := _) rfl (fun K hK => ?_) AllReadyH.nil
  obtain ⟨x0', x1', x2', x3', x4', x5', y0', y1', y2', y3', y4', y5'⟩ := out6 bG_11
  go_simp
  refine hK.out _ _ ⟨⟨(gx6 _ _ _ _ _ _ _ _).keepc hne_bI hH8.1.1, (gx6 _ _ _ _ _ _ _ _).keepc hne_bI hH8.1.2.1, (gx6 _ _ _ _ _ _ _ _).keepc hne_bI hH8.1.2.2.1, (gx6 _ _ _ _ _ _ _ _).keepc hne_bI hH8.1.2.2.2.1, (gx6 _ _ _ _ _ _ _ _).keepc hne_bI hH8.1.2.2.2.2.1, (gx6 _ _ _ _ _ _ _ _).keepc hne_bI hH8.1.2.2.2.2.2⟩, hH8.2.trans (gx6 _ _ _ _ _ _ _ _)⟩ (fun hS14 => ?_)
  clear hK K x0' x1' x2' x3' x4' x5' y0' y1' y2' y3' y4' y5'
  (try simp only [Act.put, List.setIfInBounds_toArray, List.set_cons_zero, List.set_cons_succ])
  refine wpAnyH_done (by kernel_rfl) ?_ _
  exact ⟨_, _, _, _, _, _, _, _, _, _, _, _, _, _, _, _, _, _, _, _, _, rfl, putB6 bG_11 _ _ _ _ _ _, d1_12.gx (NoR.of bG_11 rfl) (gx6 _ _ _ _ _ _ _ _), d2_10.gx (NoR.of bG_11 rfl) (gx6 _ _ _ _ _ _ _ _), hS14.2⟩
theorem two6 (w : World) (a0 a1 a2 a3 a4 a5 : Value) (o : Obj) (W0 : World) (h : W0 = (w.alloc (.cells #[a0, a1, a2, a3, a4, a5] 51)).alloc o) :
    W0.heap[w.heap.size]? = some (.cells #[a0, a1, a2, a3, a4, a5] 51) ∧ W0.heap[w.heap.size + 1]? = some o ∧ Gr w W0 := by
  refine ⟨?_, ?_, ?_⟩
  · rw [h]
    show ((w.heap.push _).push _)[w.heap.size]? = _
    simp only [Array.getElem?_push, Array.size_push]
    rw [if_neg (by omega), if_pos trivial]
  · rw [h]; exact second_block w _ _
  · rw [h]; exact gr2 _ _
set_option maxRecDepth 10000 in
set_option maxHeartbeats 4000000 in
theorem outward (B : Nat) (v : Value) (L H : Int) (b lo k : Nat) (w : World) (h : Rk w B) (hv : Gv w v L H) (hT : TabAt 1 Lib.deBruijn64tab w) (gL : Gd lo k L) (gH : Gd lo k H) (hlo : lo ≤ 100000) (hk : k < 200000) (hb : b ≤ 100000) :
    Calls Tryz.prog 124 #[.pointer (some ⟨B, 0, none⟩), v, .int .i64 (b : Int)] w fun r w' => (∃ v', r = .returned v' ∧ Gv w' v' (cutI L b false * Un b) (cutI H b true * Un b)) ∧ Gr w w' := by
  obtain ⟨s1, a1, n1, c1, e1, s2, a2, n2, c2, e2, rfl, d1, d2⟩ := hv
  have TA : Hid _ := two6 w (.bool s1) (.slice a1 n1 c1) (.int .i64 e1) (.bool s2) (.slice a2 n2 c2) (.int .i64 e2) (.cells #[.bool false, .slice none 0 0, .int .i64 0, .bool false, .slice none 0 0, .int .i64 0] 51) _ rfl
  have CL : Hid (∀ w1, Gr w w1 → Calls Tryz.prog 123 #[.pointer (some ⟨B, 0, none⟩), .agg #[.bool s1, .slice a1 n1 c1, .int .i64 e1], .int .i64 (b : Int), .bool false] w1 fun r w' => Dv w' r (cutI L b false * Un b) ∧ Gr w1 w') := fun w1 g => angCut B s1 a1 n1 c1 e1 L b lo k false w1 (h.gr g) (d1.gr g) (tab_gr hT g) gL hlo hk hb
  have CH : Hid (∀ w1, Gr w w1 → Calls Tryz.prog 123 #[.pointer (some ⟨B, 0, none⟩), .agg #[.bool s2, .slice a2 n2 c2, .int .i64 e2], .int .i64 (b : Int), .bool true] w1 fun r w' => Dv w' r (cutI H b true * Un b) ∧ Gr w1 w') := fun w1 g => angCut B s2 a2 n2 c2 e2 H b lo k true w1 (h.gr g) (d2.gr g) (tab_gr hT g) gH hlo hk hb
  clear hT d1 d2 h gL gH
  go_enter Tryz.func124, Tryz.ntmps124
  go_wp2_with (fail)
  obtain ⟨x0, x1, x2, x3, x4, x5, y0, y1, y2, y3, y4, y5⟩ := out6 TA.out.1
  refine Code.wp_mono ?_ (reg124 _ _ _ _ _ _ _ _ _ _ _ _ _ _ B w.heap.size (w.heap.size + 1) b s1 a1 n1 c1 e1 s2 a2 n2 c2 e2 _ _ _ (fun w1 g => CL.out w1 (TA.out.2.2.trans g)) (fun w1 g => CH.out w1 (TA.out.2.2.trans g)) (by omega) TA.out.2.1 ⟨x0, x1, x2, x3, x4, x5⟩)
  intro ex ac W hR
  cases ex
  case normal =>
    obtain ⟨_, _, _, _, _, _, _, _, _, _, _, s5, a5, n5, c5, e5, s6, a6, n6, c6, e6, rfl, hb, d5, d6, gW⟩ := hR
    obtain ⟨t0, t1, t2, t3, t4, t5, u0, u1, u2, u3, u4, u5⟩ := out6 hb
    go_wp2
    refine bodyPost_ret (v := .agg #[.bool s5, .slice a5 n5 c5, .int .i64 e5, .bool s6, .slice a6 n6 c6, .int .i64 e6]) ?_ rfl ⟨⟨_, rfl, _, _, _, _, _, _, _, _, _, _, rfl, d5, d6⟩, gW.gr (Nat.le_succ _) TA.out.2.2⟩
    simp [results, Tryz.results124, go_sem, t0, t1, t2, t3, t4, t5]
  all_goals exact hR.elim
end Go.Proofs.YthilajhciifhaaaGreatDoor
namespace Go.Proofs.YthilajhciifhaaaGreatDoor
open Go.RowKit
set_option linter.unusedVariables false
set_option linter.unusedSimpArgs false
/-- an answer: four right dyads of those worths -/
def Bv (w : World) (v : Value) (L1 H1 L2 H2 : Int) : Prop := ∃ s3 a3 n3 c3 e3 s4 a4 n4 c4 e4 s5 a5 n5 c5 e5 s6 a6 n6 c6 e6, v = .agg #[.bool s3, .slice a3 n3 c3, .int .i64 e3, .bool s4, .slice a4 n4 c4, .int .i64 e4, .bool s5, .slice a5 n5 c5, .int .i64 e5, .bool s6, .slice a6 n6 c6, .int .i64 e6] ∧ DyV w s3 a3 n3 c3 e3 L1 ∧ DyV w s4 a4 n4 c4 e4 H1 ∧ DyV w s5 a5 n5 c5 e5 L2 ∧ DyV w s6 a6 n6 c6 e6 H2
def R125 (t1 t3 t4 t5 t7 t8 t11 t12 t13 t14 t15 t16 t17 t18 t19 t20 t21 t22 t23 t24 t25 t26 t27 t28 t29 t30 t31 t32 t33 t34 t35 t36 t37 t38 t39 t40 t41 t42 t43 t44 t45 t46 t47 t48 t49 t50 t51 t52 t53 t54 t55 t56 t57 t58 t59 t60 t61 : Value) (B bR bM bG P : Nat) (s1 : Bool) (a1 : Option Addr) (n1 c1 : Nat) (e1 : Int) (s2 : Bool) (a2 : Option Addr) (n2 c2 : Nat) (e2 : Int) (V1 V2 V3 V4 : Int) (wq : World) : Exit → Act → World → Prop
  | .normal, a, w => ∃ u53 u54 u55 u56 u57 u58 u59 u60 u61 s3 a3 n3 c3 e3 s4 a4 n4 c4 e4 s5 a5 n5 c5 e5 s6 a6 n6 c6 e6, a = { tmps := #[.pointer (some ⟨B, 0, none⟩), t1, .int .i64 (P : Int), t3, t4, t5, .pointer (some ⟨bG, 0, none⟩), t7, t8, .pointer (some ⟨bR, 0, none⟩), .pointer (some ⟨bM, 0, none⟩), t11, t12, t13, t14, t15, t16, t17, t18, t19, t20, t21, t22, t23, t24, t25, t26, t27, t28, t29, t30, t31, t32, t33, t34, t35, t36, t37, t38, t39, t40, t41, t42, t43, t44, t45, t46, t47, t48, t49, t50, t51, t52, u53, u54, u55, u56, u57, u58, u59, u60, u61], defers := [] } ∧ w.heap[bG]? = some (.cells #[.bool s3, .slice a3 n3 c3, .int .i64 e3, .bool s4, .slice a4 n4 c4, .int .i64 e4, .bool s5, .slice a5 n5 c5, .int .i64 e5, .bool s6, .slice a6 n6 c6, .int .i64 e6] 106) ∧ DyV w s3 a3 n3 c3 e3 V1 ∧ DyV w s4 a4 n4 c4 e4 V2 ∧ DyV w s5 a5 n5 c5 e5 V3 ∧ DyV w s6 a6 n6 c6 e6 V4 ∧ Gx bG wq w
  | _, _, _ => False
set_option maxRecDepth 100000 in
set_option maxHeartbeats 40000000 in
theorem reg125 (t1 t3 t4 t5 t7 t8 t11 t12 t13 t14 t15 t16 t17 t18 t19 t20 t21 t22 t23 t24 t25 t26 t27 t28 t29 t30 t31 t32 t33 t34 t35 t36 t37 t38 t39 t40 t41 t42 t43 t44 t45 t46 t47 t48 t49 t50 t51 t52 t53 t54 t55 t56 t57 t58 t59 t60 t61 : Value) (B bR bM bG P : Nat) (s1 : Bool) (a1 : Option Addr) (n1 c1 : Nat) (e1 : Int) (s2 : Bool) (a2 : Option Addr) (n2 c2 : Nat) (e2 : Int) (V1 V2 V3 V4 : Int) (wq : World)
    (A1 : Hid (∀ w1, Gr wq w1 → Calls Tryz.prog 166 #[.pointer (some ⟨B, 0, none⟩), .agg #[.bool s1, .slice a1 n1 c1, .int .i64 e1], .int .i64 (P : Int)] w1 fun r w' => (∃ v, r = .returned v ∧ Gv w' v V1 V2) ∧ Gr w1 w'))
    (A2 : Hid (∀ w1, Gr wq w1 → Calls Tryz.prog 166 #[.pointer (some ⟨B, 0, none⟩), .agg #[.bool s2, .slice a2 n2 c2, .int .i64 e2], .int .i64 (P : Int)] w1 fun r w' => (∃ v, r = .returned v ∧ Gv w' v V3 V4) ∧ Gr w1 w'))
    (hne_bR : bR ≠ bG) (hne_bM : bM ≠ bG) (hbG : wq.heap[bG]? = some (.cells #[.bool false, .slice none 0 0, .int .i64 0, .bool false, .slice none 0 0, .int .i64 0, .bool false, .slice none 0 0, .int .i64 0, .bool false, .slice none 0 0, .int .i64 0] 106)) (hcs : (wq.cell? ⟨bR, 0, none⟩ = some (.bool s1) ∧ wq.cell? ⟨bR, 1, none⟩ = some (.slice a1 n1 c1) ∧ wq.cell? ⟨bR, 2, none⟩ = some (.int .i64 e1) ∧ wq.cell? ⟨bM, 0, none⟩ = some (.bool s2) ∧ wq.cell? ⟨bM, 1, none⟩ = some (.slice a2 n2 c2) ∧ wq.cell? ⟨bM, 2, none⟩ = some (.int .i64 e2))) :
    Code.wp Tryz.prog (Code.region 7 #[{ dst := some 53, op := Op.move (Operand.tmp 0), type := 147, pos := "reckoner.go:47", after := #[], guard := none }, { dst := some 54, op := Op.load 24 (Operand.tmp 9), type := 24, pos := "reckoner.go:47", after := #[], guard := none }, { dst := some 55, op := Op.move (Operand.tmp 2), type := 3, pos := "reckoner.go:47", after := #[], guard := none }, { dst := some 56, op := Op.call { callee := Callee.value (Operand.func 166), args := #[Operand.tmp 53, Operand.tmp 54, Operand.tmp 55], argTypes := #[147, 24, 3] }, type := 51, pos := "reckoner.go:47", after := #[{ on := 0, ground := Ground.data }, { on := 1, ground := Ground.data }, { on := 2, ground := Ground.data }], guard := none }, { dst := some 57, op := Op.move (Operand.tmp 0), type := 147, pos := "reckoner.go:47", after := #[], guard := none }, { dst := some 58, op := Op.load 24 (Operand.tmp 10), type := 24, pos := "reckoner.go:47", after := #[], guard := none }, { dst := some 59, op := Op.move (Operand.tmp 2), type := 3, pos := "reckoner.go:47", after := #[], guard := none }, { dst := some 60, op := Op.call { callee := Callee.value (Operand.func 166), args := #[Operand.tmp 57, Operand.tmp 58, Operand.tmp 59], argTypes := #[147, 24, 3] }, type := 51, pos := "reckoner.go:47", after := #[{ on := 4, ground := Ground.data }, { on := 5, ground := Ground.data }, { on := 6, ground := Ground.data }, { on := 3, ground := Ground.chain }], guard := none }, { dst := some 61, op := Op.build 106 #[(0, Operand.tmp 56), (1, Operand.tmp 60)], type := 106, pos := "reckoner.go:47", after := #[{ on := 3, ground := Ground.data }, { on := 7, ground := Ground.data }], guard := none }, { dst := none, op := Op.store 106 (Operand.tmp 6) (Operand.tmp 61), type := 0, pos := "reckoner.go:47", after := #[{ on := 8, ground := Ground.data }, { on := 7, ground := Ground.chain }, { on := 0, ground := Ground.phase }, { on := 1, ground := Ground.phase }, { on := 2, ground := Ground.phase }, { on := 3, ground := Ground.phase }, { on := 4, ground := Ground.phase }, { on := 5, ground := Ground.phase }, { on := 6, ground := Ground.phase }, { on := 7, ground := Ground.phase }, { on := 8, ground := Ground.phase }], guard := none }] true) (R125 t1 t3 t4 t5 t7 t8 t11 t12 t13 t14 t15 t16 t17 t18 t19 t20 t21 t22 t23 t24 t25 t26 t27 t28 t29 t30 t31 t32 t33 t34 t35 t36 t37 t38 t39 t40 t41 t42 t43 t44 t45 t46 t47 t48 t49 t50 t51 t52 t53 t54 t55 t56 t57 t58 t59 t60 t61 B bR bM bG P s1 a1 n1 c1 e1 s2 a2 n2 c2 e2 V1 V2 V3 V4 wq) { tmps := #[.pointer (some ⟨B, 0, none⟩), t1, .int .i64 (P : Int), t3, t4, t5, .pointer (some ⟨bG, 0, none⟩), t7, t8, .pointer (some ⟨bR, 0, none⟩), .pointer (some ⟨bM, 0, none⟩), t11, t12, t13, t14, t15, t16, t17, t18, t19, t20, t21, t22, t23, t24, t25, t26, t27, t28, t29, t30, t31, t32, t33, t34, t35, t36, t37, t38, t39, t40, t41, t42, t43, t44, t45, t46, t47, t48, t49, t50, t51, t52, t53, t54, t55, t56, t57, t58, t59, t60, t61], defers := [] } wq := by
  have hS0 : (wq.drew.cell? ⟨bR, 0, none⟩ = some (.bool s1) ∧ wq.drew.cell? ⟨bR, 1, none⟩ = some (.slice a1 n1 c1) ∧ wq.drew.cell? ⟨bR, 2, none⟩ = some (.int .i64 e1) ∧ wq.drew.cell? ⟨bM, 0, none⟩ = some (.bool s2) ∧ wq.drew.cell? ⟨bM, 1, none⟩ = some (.slice a2 n2 c2) ∧ wq.drew.cell? ⟨bM, 2, none⟩ = some (.int .i64 e2)) ∧ Gx bG wq wq.drew := ⟨hcs, Gx.of_gr (Gr.refl wq).drew⟩
  have hbG0 : wq.drew.heap[bG]? = some (.cells #[.bool false, .slice none 0 0, .int .i64 0, .bool false, .slice none 0 0, .int .i64 0, .bool false, .slice none 0 0, .int .i64 0, .bool false, .slice none 0 0, .int .i64 0] 106) := hbG
  have hg0 : Gr wq wq.drew := (Gr.refl wq).drew
  clear hcs
  refine wp_region_held_drew (S := fun w' => (w'.cell? ⟨bR, 0, none⟩ = some (.bool s1) ∧ w'.cell? ⟨bR, 1, none⟩ = some (.slice a1 n1 c1) ∧ w'.cell? ⟨bR, 2, none⟩ = some (.int .i64 e1) ∧ w'.cell? ⟨bM, 0, none⟩ = some (.bool s2) ∧ w'.cell? ⟨bM, 1, none⟩ = some (.slice a2 n2 c2) ∧ w'.cell? ⟨bM, 2, none⟩ = some (.int .i64 e2)) ∧ Gx bG wq w') (by kernel_rfl) hS0 (fun hHeld => ?_)
  clear hS0
  generalize wq.drew = wd at *
  refine wpAnyH_take (i := 0) (oi := _) (v := ?_) rfl (by kernel_rfl) (by kernel_rfl) (by kernel_rfl) (fun _ _ _ h => h) (Or.inl ⟨by rfl, ?_⟩) (by with_reducible assumption) ?_
  rotate_left
  · intro w hSw
    (try dsimp only at hSw)
    first | (go_simp; done) | (go_simp; with_reducible rfl)
  (try simp only [Act.put, List.setIfInBounds_toArray, List.set_cons_zero, List.set_cons_succ])
  refine wpAnyH_take (i := 1) (oi := _) (v := ?_) rfl (by kernel_rfl) (by kernel_rfl) (by kernel_rfl) (fun _ _ _ h => h) (Or.inl ⟨by rfl, ?_⟩) (by with_reducible assumption) ?_
  rotate_left
  · intro w hSw
    (try dsimp only at hSw)
    first | (go_simp; done) | (go_simp; with_reducible rfl)
  (try simp only [Act.put, List.setIfInBounds_toArray, List.set_cons_zero, List.set_cons_succ])
  refine wpAnyH_take (i := 2) (oi := _) (v := ?_) rfl (by kernel_rfl) (by kernel_rfl) (by kernel_rfl) (fun _ _ _ h => h) (Or.inl ⟨by rfl, ?_⟩) (by with_reducible assumption) ?_
  rotate_left
  · intro w hSw
    (try dsimp only at hSw)
    first | (go_simp; done) | (go_simp; with_reducible rfl)
  (try simp only [Act.put, List.setIfInBounds_toArray, List.set_cons_zero, List.set_cons_succ])
  refine wpAnyH_take (i := 4) (oi := _) (v := ?_) rfl (by kernel_rfl) (by kernel_rfl) (by kernel_rfl) (fun _ _ _ h => h) (Or.inl ⟨by rfl, ?_⟩) (by with_reducible assumption) ?_
  rotate_left
  · intro w hSw
    (try dsimp only at hSw)
    first | (go_simp; done) | (go_simp; with_reducible rfl)
  (try simp only [Act.put, List.setIfInBounds_toArray, List.set_cons_zero, List.set_cons_succ])
  refine wpAnyH_take (i := 5) (oi := _) (v := ?_) rfl (by kernel_rfl) (by kernel_rfl) (by kernel_rfl) (fun _ _ _ h => h) (Or.inl ⟨by rfl, ?_⟩) (by with_reducible assumption) ?_
  rotate_left
  · intro w hSw
    (try dsimp only at hSw)
    first | (go_simp; done) | (go_simp; with_reducible rfl)
  (try simp only [Act.put, List.setIfInBounds_toArray, List.set_cons_zero, List.set_cons_succ])
  refine wpAnyH_take (i := 6) (oi := _) (v := ?_) rfl (by kernel_rfl) (by kernel_rfl) (by kernel_rfl) (fun _ _ _ h => h) (Or.inl ⟨by rfl, ?_⟩) (by with_reducible assumption) ?_
  rotate_left
  · intro w hSw
    (try dsimp only at hSw)
    first | (go_simp; done) | (go_simp; with_reducible rfl)
  (try simp only [Act.put, List.setIfInBounds_toArray, List.set_cons_zero, List.set_cons_succ])
  refine wpAnyH_ready (rs := [3]) (by kernel_rfl) (by simp) ?_
  refine AllReadyH.cons (o := _) rfl (fun K hK => ?_) AllReadyH.nil
  go_simp
  refine (A1.out _ hg0).mono ?_
  rintro r wc1 ⟨⟨_, rfl, s3, a3, n3, c3, e3, s4, a4, n4, c4, e4, rfl, d3_4, d4_5⟩, gg3⟩
  refine hK.out _ _ ⟨⟨gg3.keep hHeld.1.1, gg3.keep hHeld.1.2.1, gg3.keep hHeld.1.2.2.1, gg3.keep hHeld.1.2.2.2.1, gg3.keep hHeld.1.2.2.2.2.1, gg3.keep hHeld.1.2.2.2.2.2⟩, hHeld.2.trans (Gx.of_gr gg3)⟩ (fun hH2 => ?_)
  clear hK K
  (try simp only [Act.put, List.setIfInBounds_toArray, List.set_cons_zero, List.set_cons_succ])
  have bG_6 := gg3.keepH hbG0
  clear hbG0
  have gq7 := hg0.trans gg3
  clear hg0
  refine wpAnyH_ready (rs := [7]) (by kernel_rfl) (by simp) ?_
  refine AllReadyH.cons (o := _) rfl (fun K hK => ?_) AllReadyH.nil
  go_simp
  refine (A2.out _ gq7).mono ?_
  rintro r wc8 ⟨⟨_, rfl, s5, a5, n5, c5, e5, s6, a6, n6, c6, e6, rfl, d5_11, d6_12⟩, gg10⟩
  refine hK.out _ _ ⟨⟨gg10.keep hH2.1.1, gg10.keep hH2.1.2.1, gg10.keep hH2.1.2.2.1, gg10.keep hH2.1.2.2.2.1, gg10.keep hH2.1.2.2.2.2.1, gg10.keep hH2.1.2.2.2.2.2⟩, hH2.2.trans (Gx.of_gr gg10)⟩ (fun hH9 => ?_)
  clear hK K
  (try simp only [Act.put, List.setIfInBounds_toArray, List.set_cons_zero, List.set_cons_succ])
  have bG_13 := gg10.keepH bG_6
  clear bG_6
  have d3_14 := d3_4.gr gg10
  clear d3_4
  have d4_15 := d4_5.gr gg10
  clear d4_5
  have gq16 := gq7.trans gg10
  clear gq7
  refine wpAnyH_take (i := 8) (oi := _) (v := ?_) rfl (by kernel_rfl) (by kernel_rfl) (by kernel_rfl) (fun _ _ _ h => h) (Or.inl ⟨by rfl, ?_⟩) (by with_reducible assumption) ?_
  rotate_left
  · intro w hSw
    (try dsimp only at hSw)
    first | (go_simp; done) | (go_simp; with_reducible rfl)
  (try simp only [Act.put, List.setIfInBounds_toArray, List.set_cons_zero, List.set_cons_succ])
  refine wpAnyH_ready (rs := [9]) (by kernel_rfl) (by simp) ?_
  refine AllReadyH.cons (o := _) rfl (fun K hK => ?_) AllReadyH.nil
  obtain ⟨x0', x1', x2', x3', x4', x5', x6', x7', x8', x9', x10', x11', y0', y1', y2', y3', y4', y5', y6', y7', y8', y9', y10', y11'⟩ := out12 bG_13
  go_simp
  refine hK.out _ _ ⟨⟨(gx12 _ _ _ _ _ _ _ _ _ _ _ _ _ _).keepc hne_bR hH9.1.1, (gx12 _ _ _ _ _ _ _ _ _ _ _ _ _ _).keepc hne_bR hH9.1.2.1, (gx12 _ _ _ _ _ _ _ _ _ _ _ _ _ _).keepc hne_bR hH9.1.2.2.1, (gx12 _ _ _ _ _ _ _ _ _ _ _ _ _ _).keepc hne_bM hH9.1.2.2.2.1, (gx12 _ _ _ _ _ _ _ _ _ _ _ _ _ _).keepc hne_bM hH9.1.2.2.2.2.1, (gx12 _ _ _ _ _ _ _ _ _ _ _ _ _ _).keepc hne_bM hH9.1.2.2.2.2.2⟩, hH9.2.trans (gx12 _ _ _ _ _ _ _ _ _ _ _ _ _ _)⟩ (fun hS17 => ?_)
  clear hK K x0' x1' x2' x3' x4' x5' x6' x7' x8' x9' x10' x11' y0' y1' y2' y3' y4' y5' y6' y7' y8' y9' y10' y11'
  (try simp only [Act.put, List.setIfInBounds_toArray, List.set_cons_zero, List.set_cons_succ])
  refine wpAnyH_done (by kernel_rfl) ?_ _
  exact ⟨_, _, _, _, _, _, _, _, _, _, _, _, _, _, _, _, _, _, _, _, _, _, _, _, _, _, _, _, _, rfl, putB12 bG_13 _ _ _ _ _ _ _ _ _ _ _ _, d3_14.gx (NoR.of bG_13 rfl) (gx12 _ _ _ _ _ _ _ _ _ _ _ _ _ _), d4_15.gx (NoR.of bG_13 rfl) (gx12 _ _ _ _ _ _ _ _ _ _ _ _ _ _), d5_11.gx (NoR.of bG_13 rfl) (gx12 _ _ _ _ _ _ _ _ _ _ _ _ _ _), d6_12.gx (NoR.of bG_13 rfl) (gx12 _ _ _ _ _ _ _ _ _ _ _ _ _ _), hS17.2⟩
end Go.Proofs.YthilajhciifhaaaGreatDoor
namespace Go.Proofs.YthilajhciifhaaaGreatDoor
open Go.RowKit
set_option linter.unusedVariables false
set_option linter.unusedSimpArgs false
set_option maxRecDepth 10000 in
set_option maxHeartbeats 4000000 in
theorem boxQ (B : Nat) (p q bits : Int) (w : World) (h0 : 0 ≤ p) (h1 : p < 16384) (hm : p % 4096 = 0) (hd : p / 4096 = q) (hT : TabAt 1 Lib.deBruijn64tab w) :
    Calls Tryz.prog 125 #[.pointer (some ⟨B, 0, none⟩), .int .i64 p, .int .i64 bits] w fun r w' => (∃ v, r = .returned v ∧ Bv w' v (cq q * Un 0) (cq q * Un 0) (cq (q - 1) * Un 0) (cq (q - 1) * Un 0)) ∧ Gr w w' := by
  have A : Hid (∀ w1 x, Gr w w1 → Calls Tryz.prog 161 #[.int .i64 x] w1 fun r w' => Dv w' r (cq x * Un 0) ∧ Gr w1 w') := fun w1 x g => atQuarter x w1 (tab_gr hT g)
  have kb0 : Hid _ := new_at w (.cells #[.bool false, .slice none 0 0, .int .i64 0, .bool false, .slice none 0 0, .int .i64 0, .bool false, .slice none 0 0, .int .i64 0, .bool false, .slice none 0 0, .int .i64 0] 106)
  have g0 : Hid _ := (Gr.refl w).alloc (.cells #[.bool false, .slice none 0 0, .int .i64 0, .bool false, .slice none 0 0, .int .i64 0, .bool false, .slice none 0 0, .int .i64 0, .bool false, .slice none 0 0, .int .i64 0] 106)
  have hq : 0 ≤ q ∧ q ≤ 4 := by omega
  clear hT
  go_enter Tryz.func125, Tryz.ntmps125
  go_wp2_with (first
    | (go_at_call 161; (with_reducible refine (A.out _ _ g0.out).mono ?_); rintro r w1 ⟨⟨s1, a1, n1, c1, e1, rfl, d1⟩, g1⟩)
    | (go_at_call 161; (with_reducible refine (A.out _ _ (g0.out.trans g1)).mono ?_); rintro r w2 ⟨⟨s2, a2, n2, c2, e2, rfl, d2⟩, g2⟩)
    | (go_at_call 161; (with_reducible refine (A.out _ _ ((g0.out.trans g1).trans g2)).mono ?_); rintro r w3 ⟨⟨s3, a3, n3, c3, e3, rfl, d3⟩, g3⟩)
    | (go_at_call 161; (with_reducible refine (A.out _ _ (((g0.out.trans g1).trans g2).trans g3)).mono ?_); rintro r w4 ⟨⟨s4, a4, n4, c4, e4, rfl, d4⟩, g4⟩; have kb4 := g4.keepH (g3.keepH (g2.keepH (g1.keepH kb0.out))); obtain ⟨x0, x1, x2, x3, x4, x5, x6, x7, x8, x9, x10, x11, y0, y1, y2, y3, y4, y5, y6, y7, y8, y9, y10, y11⟩ := out12 kb4))
  have nr := NoR.of kb4 rfl
  refine bodyPost_ret (v := .agg #[.bool s1, .slice a1 n1 c1, .int .i64 e1, .bool s2, .slice a2 n2 c2, .int .i64 e2, .bool s3, .slice a3 n3 c3, .int .i64 e3, .bool s4, .slice a4 n4 c4, .int .i64 e4]) ?_ rfl ⟨⟨_, rfl, _, _, _, _, _, _, _, _, _, _, _, _, _, _, _, _, _, _, _, _, rfl, ((d1.gr g2).gr (g3.trans g4)).gx nr (gx12 _ _ _ _ _ _ _ _ _ _ _ _ _ _), ((d2.gr g3).gr g4).gx nr (gx12 _ _ _ _ _ _ _ _ _ _ _ _ _ _), (d3.gr g4).gx nr (gx12 _ _ _ _ _ _ _ _ _ _ _ _ _ _), d4.gx nr (gx12 _ _ _ _ _ _ _ _ _ _ _ _ _ _)⟩, (gx12 _ _ _ _ _ _ _ _ _ _ _ _ _ _).gr (Nat.le_refl _) ((g0.out.trans g1).trans ((g2.trans g3).trans g4))⟩
  simp [results, Tryz.results125, go_sem, x0, x1, x2, x3, x4, x5, x6, x7, x8, x9, x10, x11]
end Go.Proofs.YthilajhciifhaaaGreatDoor
