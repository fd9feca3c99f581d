import Derived.Test.YthilajhciifhaaaGreatDoorM29
import Derived.Deep.RegionHeld3
import Derived.WalkMore
namespace Go.Proofs.YthilajhciifhaaaGreatDoor
open Go.RowKit
set_option linter.unusedVariables false
set_option linter.unusedSimpArgs false
theorem out3 {w : World} {B : Nat} {v0 v1 v2 : Value} {T : TypeId} (h : w.heap[B]? = some (.cells #[v0, v1, v2] T)) : w.cell? ⟨B, 0, none⟩ = some v0 ∧ w.cell? ⟨B, 1, none⟩ = some v1 ∧ w.cell? ⟨B, 2, none⟩ = some v2 := ⟨by simp [World.cell?, h], by simp [World.cell?, h], by simp [World.cell?, h]⟩
set_option maxRecDepth 10000 in
set_option maxHeartbeats 4000000 in
theorem boxW (B P : Nat) (p q VC VM V1 V2 VR VI L1 H1 L2 H2 : Int) (b1 b2 : Bool) (w : World) (h0 : 0 ≤ p) (h1 : p < 16384) (hm : ¬ p % 4096 = 0) (hd : p / 4096 = q)
    (C : Hid (∀ w1, Gr w w1 → Calls Tryz.prog 162 #[.pointer (some ⟨B, 0, none⟩), .int .i64 (2 * p), .int .i64 (P : Int)] w1 fun r w' => Dv w' r VC ∧ Gr w1 w'))
    (HA : Hid (∀ w1 s ad n cap e, Gr w w1 → DyV w1 s ad n cap e VC → Calls Tryz.prog 164 #[.pointer (some ⟨B, 0, none⟩), .agg #[.bool s, .slice ad n cap, .int .i64 e], .int .i64 (P : Int)] w1 fun r w' => Dv w' r V1 ∧ Gr w1 w'))
    (HB : Hid (∀ w1 s ad n cap e, Gr w w1 → DyV w1 s ad n cap e VM → Calls Tryz.prog 164 #[.pointer (some ⟨B, 0, none⟩), .agg #[.bool s, .slice ad n cap, .int .i64 e], .int .i64 (P : Int)] w1 fun r w' => Dv w' r V2 ∧ Gr w1 w'))
    (LA : Hid (∀ w1, Calls Tryz.prog 165 #[.int .i64 q] w1 fun r w' => r = .returned (.bool b1) ∧ w' = w1))
    (LB : Hid (∀ w1, Calls Tryz.prog 165 #[.int .i64 (q - 1)] w1 fun r w' => r = .returned (.bool b2) ∧ w' = w1))
    (SA : Hid (∀ w1 s ad n cap e, Gr w w1 → DyV w1 s ad n cap e V1 → Calls Tryz.prog 163 #[.pointer (some ⟨B, 0, none⟩), .agg #[.bool s, .slice ad n cap, .int .i64 e], .bool b1] w1 fun r w' => Dv w' r VR ∧ Gr w1 w'))
    (SB : Hid (∀ w1 s ad n cap e, Gr w w1 → DyV w1 s ad n cap e V2 → Calls Tryz.prog 163 #[.pointer (some ⟨B, 0, none⟩), .agg #[.bool s, .slice ad n cap, .int .i64 e], .bool b2] w1 fun r w' => Dv w' r VI ∧ Gr w1 w'))
    (SN : Hid (∀ w1 s ad n cap e, Gr w w1 → DyV w1 s ad n cap e VC → Calls Tryz.prog 163 #[.pointer (some ⟨B, 0, none⟩), .agg #[.bool s, .slice ad n cap, .int .i64 e], .bool true] w1 fun r w' => Dv w' r VM ∧ Gr w1 w'))
    (AA : Hid (∀ w1 s ad n cap e, Gr w w1 → DyV w1 s ad n cap e VR → Calls Tryz.prog 166 #[.pointer (some ⟨B, 0, none⟩), .agg #[.bool s, .slice ad n cap, .int .i64 e], .int .i64 (P : Int)] w1 fun r w' => (∃ v, r = .returned v ∧ Gv w' v L1 H1) ∧ Gr w1 w'))
    (AB : Hid (∀ w1 s ad n cap e, Gr w w1 → DyV w1 s ad n cap e VI → Calls Tryz.prog 166 #[.pointer (some ⟨B, 0, none⟩), .agg #[.bool s, .slice ad n cap, .int .i64 e], .int .i64 (P : Int)] w1 fun r w' => (∃ v, r = .returned v ∧ Gv w' v L2 H2) ∧ Gr w1 w')) :
    Calls Tryz.prog 125 #[.pointer (some ⟨B, 0, none⟩), .int .i64 p, .int .i64 (P : Int)] w fun r w' => (∃ v, r = .returned v ∧ Bv w' v L1 H1 L2 H2) ∧ Gr w w' := by
  have kb0 : Hid _ := new_at w (.cells #[.bool false, .slice none 0 0, .int .i64 0, .bool false, .slice none 0 0, .int .i64 0, .bool false, .slice none 0 0, .int .i64 0, .bool false, .slice none 0 0, .int .i64 0] 106)
  have g0 : Hid _ := (Gr.refl w).alloc (.cells #[.bool false, .slice none 0 0, .int .i64 0, .bool false, .slice none 0 0, .int .i64 0, .bool false, .slice none 0 0, .int .i64 0, .bool false, .slice none 0 0, .int .i64 0] 106)
  have hq : 0 ≤ q ∧ q ≤ 4 := by omega
  go_enter Tryz.func125, Tryz.ntmps125
  go_wp2_with (first
    | (go_at_call 162; (with_reducible refine (C.out _ g0.out).mono ?_); rintro r w1 ⟨⟨s1, a1, n1, c1, e1, rfl, d1⟩, g1⟩; have G1 := g0.out.trans g1)
    | (go_at_call 164; (with_reducible refine (HA.out _ _ _ _ _ _ (G1.alloc _) (d1.gr ((Gr.refl _).alloc _))).mono ?_); rintro r w2 ⟨⟨s2, a2, n2, c2, e2, rfl, d2⟩, g2⟩; have G2 := (G1.alloc _).trans g2; have m2 := g2.keepH (new_at w1 (.cells #[.bool s1, .slice a1 n1 c1, .int .i64 e1] 24)))
    | (go_at_call 165; (with_reducible refine (LA.out _).mono ?_); rintro r _ ⟨rfl, rfl⟩)
    | (go_at_call 163; (with_reducible refine (SA.out _ _ _ _ _ _ G2 d2).mono ?_); rintro r w3 ⟨⟨s3, a3, n3, c3, e3, rfl, d3⟩, g3⟩; have G3 := G2.trans g3; have m3 := ((Gr.refl w3).alloc (.cells #[.bool s3, .slice a3 n3 c3, .int .i64 e3] 24)).keepH (g3.keepH m2); obtain ⟨f0, f1, f2⟩ := out3 m3)
    | (go_at_call 163; (with_reducible refine (SN.out _ _ _ _ _ _ (G3.alloc _) ((((d1.gr ((Gr.refl _).alloc _)).gr g2).gr g3).gr ((Gr.refl _).alloc _))).mono ?_); rintro r w4 ⟨⟨s4, a4, n4, c4, e4, rfl, d4⟩, g4⟩; have G4 := (G3.alloc _).trans g4)
    | (go_at_call 164; (with_reducible refine (HB.out _ _ _ _ _ _ G4 d4).mono ?_); rintro r w5 ⟨⟨s5, a5, n5, c5, e5, rfl, d5⟩, g5⟩; have G5 := G4.trans g5)
    | (go_at_call 165; (with_reducible refine (LB.out _).mono ?_); rintro r _ ⟨rfl, rfl⟩)
    | (go_at_call 163; (with_reducible refine (SB.out _ _ _ _ _ _ G5 d5).mono ?_); rintro r w6 ⟨⟨s6, a6, n6, c6, e6, rfl, d6⟩, g6⟩; have G6 := G5.trans g6))
  have g7 := (Gr.refl w6).alloc (.cells #[.bool s6, .slice a6 n6 c6, .int .i64 e6] 24)
  have q9 := g7.keepH (g6.keepH (g5.keepH (g4.keepH (new_at w3 (.cells #[.bool s3, .slice a3 n3 c3, .int .i64 e3] 24)))))
  have q10 := new_at w6 (.cells #[.bool s6, .slice a6 n6 c6, .int .i64 e6] 24)
  have d9 := ((d3.gr ((Gr.refl _).alloc _)).gr (g4.trans (g5.trans g6))).gr g7
  have d10 := d6.gr g7
  have G7 : Hid (Gr w _) := G6.trans g7
  have kbx := g7.keepH (g6.keepH (g5.keepH (g4.keepH (((Gr.refl _).alloc (.cells #[.bool s3, .slice a3 n3 c3, .int .i64 e3] 24)).keepH (g3.keepH (g2.keepH (((Gr.refl _).alloc (.cells #[.bool s1, .slice a1 n1 c1, .int .i64 e1] 24)).keepH (g1.keepH kb0.out))))))))
  have l3 : w.heap.size ≠ w3.heap.size := Nat.ne_of_lt (lt_of_heap (g3.keepH (g2.keepH (((Gr.refl _).alloc (.cells #[.bool s1, .slice a1 n1 c1, .int .i64 e1] 24)).keepH (g1.keepH kb0.out)))))
  have l6 : w.heap.size ≠ w6.heap.size := Nat.ne_of_lt (lt_of_heap (g6.keepH (g5.keepH (g4.keepH (((Gr.refl _).alloc (.cells #[.bool s3, .slice a3 n3 c3, .int .i64 e3] 24)).keepH (g3.keepH (g2.keepH (((Gr.refl _).alloc (.cells #[.bool s1, .slice a1 n1 c1, .int .i64 e1] 24)).keepH (g1.keepH kb0.out)))))))))
  generalize w6.alloc (.cells #[.bool s6, .slice a6 n6 c6, .int .i64 e6] 24) = w7 at *
  obtain ⟨x0, x1, x2⟩ := out3 q9
  obtain ⟨y0, y1, y2⟩ := out3 q10
  refine Code.wp_mono ?_ (reg125 _ _ _ _ _ _ _ _ _ _ _ _ _ _ _ _ _ _ _ _ _ _ _ _ _ _ _ _ _ _ _ _ _ _ _ _ _ _ _ _ _ _ _ _ _ _ _ _ _ _ _ _ _ _ _ _ _ B w3.heap.size w6.heap.size w.heap.size P s3 a3 n3 c3 e3 s6 a6 n6 c6 e6 L1 H1 L2 H2 w7 (fun w1 g => AA.out w1 _ _ _ _ _ (G7.out.trans g) (d9.gr g)) (fun w1 g => AB.out w1 _ _ _ _ _ (G7.out.trans g) (d10.gr g)) (Ne.symm l3) (Ne.symm l6) kbx ⟨x0, x1, x2, y0, y1, y2⟩)
  intro ex ac W hR
  cases ex
  case normal =>
    obtain ⟨_, _, _, _, _, _, _, _, _, s13, a13, n13, c13, e13, s14, a14, n14, c14, e14, s15, a15, n15, c15, e15, s16, a16, n16, c16, e16, rfl, hb, e3', e4', e5', e6', gW⟩ := hR
    obtain ⟨t0, t1, t2, t3, t4, t5, t6, t7, t8, t9, t10, t11, u0, u1, u2, u3, u4, u5, u6, u7, u8, u9, u10, u11⟩ := out12 hb
    go_wp2
    refine bodyPost_ret (v := .agg #[.bool s13, .slice a13 n13 c13, .int .i64 e13, .bool s14, .slice a14 n14 c14, .int .i64 e14, .bool s15, .slice a15 n15 c15, .int .i64 e15, .bool s16, .slice a16 n16 c16, .int .i64 e16]) ?_ rfl ⟨⟨_, rfl, _, _, _, _, _, _, _, _, _, _, _, _, _, _, _, _, _, _, _, _, rfl, e3', e4', e5', e6'⟩, gW.gr (Nat.le_refl _) G7.out⟩
    simp [results, Tryz.results125, go_sem, t0, t1, t2, t3, t4, t5, t6, t7, t8, t9, t10, t11]
  all_goals exact hR.elim
end Go.Proofs.YthilajhciifhaaaGreatDoor
namespace Go.Proofs.YthilajhciifhaaaGreatDoor
open Go.RowKit
set_option linter.unusedVariables false
set_option linter.unusedSimpArgs false
theorem boxH (B P pl R1 R2 : Nat) (C : Int) (w : World) (h : Rk w B) (hT : TabAt 1 Lib.deBruijn64tab w) (hc : CosN P (2 * pl) C) (hpl : pl < 16384) (hm : pl % 4096 ≠ 0) (hP1 : 13 ≤ P) (hP : P ≤ 20000)
    (a1 : R1 * R1 ≤ (((2 ^ P : Nat) : Int) + C).toNat * 2 ^ (P - 1)) (a2 : (((2 ^ P : Nat) : Int) + C).toNat * 2 ^ (P - 1) < (R1 + 1) * (R1 + 1))
    (b1 : R2 * R2 ≤ (((2 ^ P : Nat) : Int) + -C).toNat * 2 ^ (P - 1)) (b2 : (((2 ^ P : Nat) : Int) + -C).toNat * 2 ^ (P - 1) < (R2 + 1) * (R2 + 1)) (re im : Int)
    (hre : re = if lf ((pl / 4096 : Nat) : Int) then -(R1 : Int) else R1) (him : im = if lf (((pl / 4096 : Nat) : Int) - 1) then -(R2 : Int) else R2) :
    Calls Tryz.prog 125 #[.pointer (some ⟨B, 0, none⟩), .int .i64 (pl : Int), .int .i64 (P : Int)] w fun r w' => (∃ v, r = .returned v ∧ Bv w' v ((re - 8192) * Un P) ((re + 8192) * Un P) ((im - 8192) * Un P) ((im + 8192) * Un P)) ∧ Gr w w' := by
  have hC := hc.small (by omega)
  have hCn : (-C).natAbs ≤ 2 ^ P := by rw [Int.natAbs_neg]; exact hC
  have hR1 := root_small (by omega) hC a1
  have hR2 := root_small (by omega) hCn b1
  refine boxW B P (pl : Int) ((pl / 4096 : Nat) : Int) (C * Un P) ((-C) * Un P) ((R1 : Int) * Un P) ((R2 : Int) * Un P) (re * Un P) (im * Un P) _ _ _ _ (lf ((pl / 4096 : Nat) : Int)) (lf (((pl / 4096 : Nat) : Int) - 1)) w (by omega) (by omega) (by omega) (by omega) (fun w1 g => ?_) (fun w1 s ad n cap e g d => ?_) (fun w1 s ad n cap e g d => ?_) (fun w1 => ?_) (fun w1 => ?_) (fun w1 s ad n cap e g d => ?_) (fun w1 s ad n cap e g d => ?_) (fun w1 s ad n cap e g d => ?_) (fun w1 s ad n cap e g d => ?_) (fun w1 s ad n cap e g d => ?_)
  · have := cosN hc (by omega) hP B w1 (h.gr g) (tab_gr hT g) ⟨12, by omega, by omega⟩
    rwa [Int.natCast_mul] at this
  · exact angHalf B s ad n cap e C P R1 w1 (h.gr g) d (tab_gr hT g) (by omega) hP hC a1 a2
  · exact angHalf B s ad n cap e (-C) P R2 w1 (h.gr g) d (tab_gr hT g) (by omega) hP hCn b1 b2
  · exact leftOf _ w1 (by omega) (by omega)
  · exact leftOf _ w1 (by omega) (by omega)
  · rw [hre]; exact angSigned B s ad n cap e (R1 : Int) P _ w1 (h.gr g) d (tab_gr hT g) hP (by rw [Int.natAbs_natCast]; exact hR1)
  · rw [him]; exact angSigned B s ad n cap e (R2 : Int) P _ w1 (h.gr g) d (tab_gr hT g) hP (by rw [Int.natAbs_natCast]; exact hR2)
  · exact angSigned B s ad n cap e C P true w1 (h.gr g) d (tab_gr hT g) hP hC
  · exact around B s ad n cap e re P w1 (h.gr g) d (tab_gr hT g) hP1 hP (by rw [hre]; split; · rw [Int.natAbs_neg]; exact hR1
                                                                            · exact hR1)
  · exact around B s ad n cap e im P w1 (h.gr g) d (tab_gr hT g) hP1 hP (by rw [him]; split; · rw [Int.natAbs_neg]; exact hR2
                                                                            · exact hR2)
def R121 (t0 t4 t5 t6 t7 t8 t9 t10 t11 t12 t13 : Value) (B bI bb b : Nat) (s1 : Bool) (a1 : Option Addr) (n1 c1 : Nat) (e1 : Int) (s2 : Bool) (a2 : Option Addr) (n2 c2 : Nat) (e2 : Int) (V1 V2 : Int) (r : Bool) (wq : World) : Exit → Act → World → Prop
  | .normal, a, w => ∃ u5 u6 u7 u8 u9 u10 u11 u12 u13, a = { tmps := #[t0, .pointer (some ⟨B, 0, none⟩), .pointer (some ⟨bb, 0, none⟩), .pointer (some ⟨bI, 0, none⟩), .bool r, u5, u6, u7, u8, u9, u10, u11, u12, u13], defers := [] } ∧ Gr wq w
  | _, _, _ => False
set_option maxRecDepth 100000 in
set_option maxHeartbeats 40000000 in
theorem reg121 (t0 t4 t5 t6 t7 t8 t9 t10 t11 t12 t13 : Value) (B bI bb b : Nat) (s1 : Bool) (a1 : Option Addr) (n1 c1 : Nat) (e1 : Int) (s2 : Bool) (a2 : Option Addr) (n2 c2 : Nat) (e2 : Int) (V1 V2 : Int) (r : Bool) (wq : World)
    (CL : Hid (∀ w1, Gr wq w1 → Calls Tryz.prog 123 #[.pointer (some ⟨B, 0, none⟩), .agg #[.bool s1, .slice a1 n1 c1, .int .i64 e1], .int .i64 (b : Int), .bool false] w1 fun r w' => Dv w' r V1 ∧ Gr w1 w'))
    (CH : Hid (∀ w1, Gr wq w1 → Calls Tryz.prog 123 #[.pointer (some ⟨B, 0, none⟩), .agg #[.bool s2, .slice a2 n2 c2, .int .i64 e2], .int .i64 (b : Int), .bool false] w1 fun r w' => Dv w' r V2 ∧ Gr w1 w'))
    (EQ : Hid (∀ w1 s3 a3 n3 c3 e3 s4 a4 n4 c4 e4, Gr wq w1 → DyV w1 s3 a3 n3 c3 e3 V1 → DyV w1 s4 a4 n4 c4 e4 V2 → Calls Tryz.prog 122 #[.pointer (some ⟨B, 0, none⟩), .agg #[.bool s3, .slice a3 n3 c3, .int .i64 e3], .agg #[.bool s4, .slice a4 n4 c4, .int .i64 e4]] w1 fun r' w' => r' = .returned (.bool r) ∧ Gr w1 w'))
    (hcs : (wq.cell? ⟨bI, 0, none⟩ = some (.bool s1) ∧ wq.cell? ⟨bI, 1, none⟩ = some (.slice a1 n1 c1) ∧ wq.cell? ⟨bI, 2, none⟩ = some (.int .i64 e1) ∧ wq.cell? ⟨bI, 3, none⟩ = some (.bool s2) ∧ wq.cell? ⟨bI, 4, none⟩ = some (.slice a2 n2 c2) ∧ wq.cell? ⟨bI, 5, none⟩ = some (.int .i64 e2) ∧ wq.cell? ⟨bb, 0, none⟩ = some (.int .i64 (b : Int)))) :
    Code.wp Tryz.prog (Code.region 1 #[{ dst := some 5, op := Op.fieldAddr 51 (Operand.tmp 3) 0, type := 0, pos := "angle.go:51", after := #[], guard := none }, { dst := some 6, op := Op.load 24 (Operand.tmp 5), type := 24, pos := "angle.go:51", after := #[{ on := 0, ground := Ground.data }], guard := none }, { dst := some 7, op := Op.load 3 (Operand.tmp 2), type := 3, pos := "angle.go:51", after := #[], guard := none }, { dst := some 8, op := Op.call { callee := Callee.value (Operand.func 123), args := #[Operand.tmp 1, Operand.tmp 6, Operand.tmp 7, Operand.const (Value.bool false)], argTypes := #[110, 24, 3, 4] }, type := 24, pos := "angle.go:51", after := #[{ on := 1, ground := Ground.data }, { on := 2, ground := Ground.data }], guard := none }, { dst := some 9, op := Op.fieldAddr 51 (Operand.tmp 3) 1, type := 0, pos := "angle.go:51", after := #[], guard := none }, { dst := some 10, op := Op.load 24 (Operand.tmp 9), type := 24, pos := "angle.go:51", after := #[{ on := 4, ground := Ground.data }], guard := none }, { dst := some 11, op := Op.load 3 (Operand.tmp 2), type := 3, pos := "angle.go:51", after := #[], guard := none }, { dst := some 12, op := Op.call { callee := Callee.value (Operand.func 123), args := #[Operand.tmp 1, Operand.tmp 10, Operand.tmp 11, Operand.const (Value.bool false)], argTypes := #[110, 24, 3, 4] }, type := 24, pos := "angle.go:51", after := #[{ on := 5, ground := Ground.data }, { on := 6, ground := Ground.data }, { on := 3, ground := Ground.chain }], guard := none }, { dst := some 13, op := Op.call { callee := Callee.value (Operand.func 122), args := #[Operand.tmp 1, Operand.tmp 8, Operand.tmp 12], argTypes := #[110, 24, 24] }, type := 4, pos := "angle.go:51", after := #[{ on := 3, ground := Ground.data }, { on := 7, ground := Ground.data }, { on := 7, ground := Ground.chain }], guard := none }, { dst := some 4, op := Op.assign (Operand.tmp 13), type := 4, pos := "angle.go:51", after := #[{ on := 8, ground := Ground.data }, { on := 8, ground := Ground.chain }, { on := 0, ground := Ground.phase }, { on := 1, ground := Ground.phase }, { on := 2, ground := Ground.phase }, { on := 3, ground := Ground.phase }, { on := 4, ground := Ground.phase }, { on := 5, ground := Ground.phase }, { on := 6, ground := Ground.phase }, { on := 7, ground := Ground.phase }, { on := 8, ground := Ground.phase }], guard := none }] true) (R121 t0 t4 t5 t6 t7 t8 t9 t10 t11 t12 t13 B bI bb b s1 a1 n1 c1 e1 s2 a2 n2 c2 e2 V1 V2 r wq) { tmps := #[t0, .pointer (some ⟨B, 0, none⟩), .pointer (some ⟨bb, 0, none⟩), .pointer (some ⟨bI, 0, none⟩), t4, t5, t6, t7, t8, t9, t10, t11, t12, t13], defers := [] } wq := by
  have hS0 : (wq.drew.cell? ⟨bI, 0, none⟩ = some (.bool s1) ∧ wq.drew.cell? ⟨bI, 1, none⟩ = some (.slice a1 n1 c1) ∧ wq.drew.cell? ⟨bI, 2, none⟩ = some (.int .i64 e1) ∧ wq.drew.cell? ⟨bI, 3, none⟩ = some (.bool s2) ∧ wq.drew.cell? ⟨bI, 4, none⟩ = some (.slice a2 n2 c2) ∧ wq.drew.cell? ⟨bI, 5, none⟩ = some (.int .i64 e2) ∧ wq.drew.cell? ⟨bb, 0, none⟩ = some (.int .i64 (b : Int))) ∧ Gr wq wq.drew := ⟨hcs, (Gr.refl wq).drew⟩
  clear hcs
  refine wp_region_held_drew (S := fun w' => (w'.cell? ⟨bI, 0, none⟩ = some (.bool s1) ∧ w'.cell? ⟨bI, 1, none⟩ = some (.slice a1 n1 c1) ∧ w'.cell? ⟨bI, 2, none⟩ = some (.int .i64 e1) ∧ w'.cell? ⟨bI, 3, none⟩ = some (.bool s2) ∧ w'.cell? ⟨bI, 4, none⟩ = some (.slice a2 n2 c2) ∧ w'.cell? ⟨bI, 5, none⟩ = some (.int .i64 e2) ∧ w'.cell? ⟨bb, 0, none⟩ = some (.int .i64 (b : Int))) ∧ Gr wq w') (by kernel_rfl) hS0 (fun hHeld => ?_)
  clear hS0
  generalize wq.drew = wd at *
  refine wpAnyH_take (i := 0) (oi := _) (v := ?_) rfl (by kernel_rfl) (by kernel_rfl) (by kernel_rfl) (fun _ _ _ h => h) (Or.inl ⟨by rfl, ?_⟩) (by with_reducible assumption) ?_
  rotate_left
  · intro w hSw
    (try dsimp only at hSw)
    first | (go_simp; done) | (go_simp; with_reducible rfl)
  (try simp only [Act.put, List.setIfInBounds_toArray, List.set_cons_zero, List.set_cons_succ])
  refine wpAnyH_take (i := 1) (oi := _) (v := ?_) rfl (by kernel_rfl) (by kernel_rfl) (by kernel_rfl) (fun _ _ _ h => h) (Or.inl ⟨by rfl, ?_⟩) (by with_reducible assumption) ?_
  rotate_left
  · intro w hSw
    (try dsimp only at hSw)
    first | (go_simp; done) | (go_simp; with_reducible rfl)
  (try simp only [Act.put, List.setIfInBounds_toArray, List.set_cons_zero, List.set_cons_succ])
  refine wpAnyH_take (i := 2) (oi := _) (v := ?_) rfl (by kernel_rfl) (by kernel_rfl) (by kernel_rfl) (fun _ _ _ h => h) (Or.inl ⟨by rfl, ?_⟩) (by with_reducible assumption) ?_
  rotate_left
  · intro w hSw
    (try dsimp only at hSw)
    first | (go_simp; done) | (go_simp; with_reducible rfl)
  (try simp only [Act.put, List.setIfInBounds_toArray, List.set_cons_zero, List.set_cons_succ])
  refine wpAnyH_take (i := 4) (oi := _) (v := ?_) rfl (by kernel_rfl) (by kernel_rfl) (by kernel_rfl) (fun _ _ _ h => h) (Or.inl ⟨by rfl, ?_⟩) (by with_reducible assumption) ?_
  rotate_left
  · intro w hSw
    (try dsimp only at hSw)
    first | (go_simp; done) | (go_simp; with_reducible rfl)
  (try simp only [Act.put, List.setIfInBounds_toArray, List.set_cons_zero, List.set_cons_succ])
  refine wpAnyH_take (i := 5) (oi := _) (v := ?_) rfl (by kernel_rfl) (by kernel_rfl) (by kernel_rfl) (fun _ _ _ h => h) (Or.inl ⟨by rfl, ?_⟩) (by with_reducible assumption) ?_
  rotate_left
  · intro w hSw
    (try dsimp only at hSw)
    first | (go_simp; done) | (go_simp; with_reducible rfl)
  (try simp only [Act.put, List.setIfInBounds_toArray, List.set_cons_zero, List.set_cons_succ])
  refine wpAnyH_take (i := 6) (oi := _) (v := ?_) rfl (by kernel_rfl) (by kernel_rfl) (by kernel_rfl) (fun _ _ _ h => h) (Or.inl ⟨by rfl, ?_⟩) (by with_reducible assumption) ?_
  rotate_left
  · intro w hSw
    (try dsimp only at hSw)
    first | (go_simp; done) | (go_simp; with_reducible rfl)
  (try simp only [Act.put, List.setIfInBounds_toArray, List.set_cons_zero, List.set_cons_succ])
  refine wpAnyH_ready (rs := [3]) (by kernel_rfl) (by simp) ?_
  refine AllReadyH.cons (o := _) rfl (fun K hK => ?_) AllReadyH.nil
  go_simp
  refine (CL.out _ hHeld.2).mono ?_
  rintro r wc1 ⟨⟨s3, a3, n3, c3, e3, rfl, d1_4⟩, gg3⟩
  refine hK.out _ _ ⟨⟨gg3.keep hHeld.1.1, gg3.keep hHeld.1.2.1, gg3.keep hHeld.1.2.2.1, gg3.keep hHeld.1.2.2.2.1, gg3.keep hHeld.1.2.2.2.2.1, gg3.keep hHeld.1.2.2.2.2.2.1, gg3.keep hHeld.1.2.2.2.2.2.2⟩, hHeld.2.trans gg3⟩ (fun hH2 => ?_)
  clear hK K
  (try simp only [Act.put, List.setIfInBounds_toArray, List.set_cons_zero, List.set_cons_succ])
  refine wpAnyH_ready (rs := [7]) (by kernel_rfl) (by simp) ?_
  refine AllReadyH.cons (o := _) rfl (fun K hK => ?_) AllReadyH.nil
  go_simp
  refine (CH.out _ hH2.2).mono ?_
  rintro r wc5 ⟨⟨s4, a4, n4, c4, e4, rfl, d2_8⟩, gg7⟩
  refine hK.out _ _ ⟨⟨gg7.keep hH2.1.1, gg7.keep hH2.1.2.1, gg7.keep hH2.1.2.2.1, gg7.keep hH2.1.2.2.2.1, gg7.keep hH2.1.2.2.2.2.1, gg7.keep hH2.1.2.2.2.2.2.1, gg7.keep hH2.1.2.2.2.2.2.2⟩, hH2.2.trans gg7⟩ (fun hH6 => ?_)
  clear hK K
  (try simp only [Act.put, List.setIfInBounds_toArray, List.set_cons_zero, List.set_cons_succ])
  have d1_9 := d1_4.gr gg7
  clear d1_4
  refine wpAnyH_ready (rs := [8]) (by kernel_rfl) (by simp) ?_
  refine AllReadyH.cons (o := _) rfl (fun K hK => ?_) AllReadyH.nil
  go_simp
  refine (EQ.out _ _ _ _ _ _ _ _ _ _ _ hH6.2 d1_9 d2_8).mono ?_
  rintro r wc10 ⟨rfl, gg12⟩
  refine hK.out _ _ ⟨⟨gg12.keep hH6.1.1, gg12.keep hH6.1.2.1, gg12.keep hH6.1.2.2.1, gg12.keep hH6.1.2.2.2.1, gg12.keep hH6.1.2.2.2.2.1, gg12.keep hH6.1.2.2.2.2.2.1, gg12.keep hH6.1.2.2.2.2.2.2⟩, hH6.2.trans gg12⟩ (fun hH11 => ?_)
  clear hK K
  (try simp only [Act.put, List.setIfInBounds_toArray, List.set_cons_zero, List.set_cons_succ])
  have d1_13 := d1_9.gr gg12
  clear d1_9
  have d2_14 := d2_8.gr gg12
  clear d2_8
  refine wpAnyH_take (i := 9) (oi := _) (v := ?_) rfl (by kernel_rfl) (by kernel_rfl) (by kernel_rfl) (fun _ _ _ h => h) (Or.inl ⟨by rfl, ?_⟩) (by with_reducible assumption) ?_
  rotate_left
  · intro w hSw
    (try dsimp only at hSw)
    first | (go_simp; done) | (go_simp; with_reducible rfl)
  (try simp only [Act.put, List.setIfInBounds_toArray, List.set_cons_zero, List.set_cons_succ])
  refine wpAnyH_done (by kernel_rfl) ?_ _
  exact ⟨_, _, _, _, _, _, _, _, _, rfl, hH11.2⟩
set_option maxRecDepth 10000 in
set_option maxHeartbeats 4000000 in
theorem alike (B bb b lo k : Nat) (s1 : Bool) (a1 : Option Addr) (n1 c1 : Nat) (e1 : Int) (s2 : Bool) (a2 : Option Addr) (n2 c2 : Nat) (e2 : Int) (L H : Int) (r : Bool) (w : World) (h : Rk w B) (d1 : DyV w s1 a1 n1 c1 e1 L) (d2 : DyV w s2 a2 n2 c2 e2 H) (hbb : w.cell? ⟨bb, 0, none⟩ = some (.int .i64 (b : Int))) (hT : TabAt 1 Lib.deBruijn64tab w) (gL : Gd lo k L) (gH : Gd lo k H) (hlo : lo ≤ 100000) (hk : k < 200000) (hb : b ≤ 100000) (hr : r = decide (cutI L b false * Un b - cutI H b false * Un b = 0)) :
    Calls Tryz.prog 121 #[.agg #[.bool s1, .slice a1 n1 c1, .int .i64 e1, .bool s2, .slice a2 n2 c2, .int .i64 e2], .pointer (some ⟨B, 0, none⟩), .pointer (some ⟨bb, 0, none⟩)] w fun r' w' => r' = .returned (.bool r) ∧ Gr w w' := by
  have g0 : Hid _ := (Gr.refl w).alloc (.cells #[.bool s1, .slice a1 n1 c1, .int .i64 e1, .bool s2, .slice a2 n2 c2, .int .i64 e2] 51)
  have kb0 : Hid _ := new_at w (.cells #[.bool s1, .slice a1 n1 c1, .int .i64 e1, .bool s2, .slice a2 n2 c2, .int .i64 e2] 51)
  have CL : Hid (∀ w1, Gr w w1 → Calls Tryz.prog 123 #[.pointer (some ⟨B, 0, none⟩), .agg #[.bool s1, .slice a1 n1 c1, .int .i64 e1], .int .i64 (b : Int), .bool false] w1 fun r w' => Dv w' r (cutI L b false * Un b) ∧ Gr w1 w') := fun w1 g => angCut B s1 a1 n1 c1 e1 L b lo k false w1 (h.gr g) (d1.gr g) (tab_gr hT g) gL hlo hk hb
  have CH : Hid (∀ w1, Gr w w1 → Calls Tryz.prog 123 #[.pointer (some ⟨B, 0, none⟩), .agg #[.bool s2, .slice a2 n2 c2, .int .i64 e2], .int .i64 (b : Int), .bool false] w1 fun r w' => Dv w' r (cutI H b false * Un b) ∧ Gr w1 w') := fun w1 g => angCut B s2 a2 n2 c2 e2 H b lo k false w1 (h.gr g) (d2.gr g) (tab_gr hT g) gH hlo hk hb
  have EQ : Hid (∀ w1 s3 a3 n3 c3 e3 s4 a4 n4 c4 e4, Gr w w1 → DyV w1 s3 a3 n3 c3 e3 (cutI L b false * Un b) → DyV w1 s4 a4 n4 c4 e4 (cutI H b false * Un b) → Calls Tryz.prog 122 #[.pointer (some ⟨B, 0, none⟩), .agg #[.bool s3, .slice a3 n3 c3, .int .i64 e3], .agg #[.bool s4, .slice a4 n4 c4, .int .i64 e4]] w1 fun r' w' => r' = .returned (.bool r) ∧ Gr w1 w') := fun w1 s3 a3 n3 c3 e3 s4 a4 n4 c4 e4 g x y => by
    rw [hr]
    exact angEqual B s3 s4 a3 a4 n3 n4 c3 c4 e3 e4 _ _ w1 (h.gr g) x y
  clear hT d1 d2 h gL gH hr
  go_enter Tryz.func121, Tryz.ntmps121
  go_wp2_with (fail)
  obtain ⟨x0, x1, x2, x3, x4, x5, y0, y1, y2, y3, y4, y5⟩ := out6 kb0.out
  refine Code.wp_mono ?_ (reg121 _ _ _ _ _ _ _ _ _ _ _ B w.heap.size bb b s1 a1 n1 c1 e1 s2 a2 n2 c2 e2 _ _ r _ (fun w1 g => CL.out w1 (g0.out.trans g)) (fun w1 g => CH.out w1 (g0.out.trans g)) (fun w1 s3 a3 n3 c3 e3 s4 a4 n4 c4 e4 g x y => EQ.out w1 _ _ _ _ _ _ _ _ _ _ (g0.out.trans g) x y) ⟨x0, x1, x2, x3, x4, x5, g0.out.keep hbb⟩)
  intro ex ac W hR
  cases ex
  case normal =>
    obtain ⟨_, _, _, _, _, _, _, _, _, rfl, gW⟩ := hR
    go_wp2
    go_ret
    exact ⟨rfl, g0.out.trans gW⟩
  all_goals exact hR.elim
end Go.Proofs.YthilajhciifhaaaGreatDoor
namespace Go.Proofs.YthilajhciifhaaaGreatDoor
open Go.RowKit
set_option linter.unusedVariables false
set_option linter.unusedSimpArgs false
set_option maxRecDepth 10000 in
set_option maxHeartbeats 8000000 in
theorem narrow (B bb : Nat) (p bits L1 H1 L2 H2 : Int) (w : World) (h : Rk w B)
    (X : Hid (∀ w1, Gr w w1 → Calls Tryz.prog 125 #[.pointer (some ⟨B, 0, none⟩), .int .i64 p, .int .i64 bits] w1 fun r w' => (∃ v, r = .returned v ∧ Bv w' v L1 H1 L2 H2) ∧ Gr w1 w'))
    (Y : Hid (∀ w1 s3 a3 n3 c3 e3 s4 a4 n4 c4 e4, Gr w w1 → DyV w1 s3 a3 n3 c3 e3 L1 → DyV w1 s4 a4 n4 c4 e4 H1 → Calls Tryz.prog 121 #[.agg #[.bool s3, .slice a3 n3 c3, .int .i64 e3, .bool s4, .slice a4 n4 c4, .int .i64 e4], .pointer (some ⟨B, 0, none⟩), .pointer (some ⟨bb, 0, none⟩)] w1 fun r w' => r = .returned (.bool true) ∧ Gr w1 w'))
    (Z : Hid (∀ w1 s3 a3 n3 c3 e3 s4 a4 n4 c4 e4, Gr w w1 → DyV w1 s3 a3 n3 c3 e3 L2 → DyV w1 s4 a4 n4 c4 e4 H2 → Calls Tryz.prog 121 #[.agg #[.bool s3, .slice a3 n3 c3, .int .i64 e3, .bool s4, .slice a4 n4 c4, .int .i64 e4], .pointer (some ⟨B, 0, none⟩), .pointer (some ⟨bb, 0, none⟩)] w1 fun r w' => r = .returned (.bool true) ∧ Gr w1 w')) :
    Calls Tryz.prog 71 #[.pointer (some ⟨B, 0, none⟩), .int .i64 p, .int .i64 bits, .func (.func 121) #[] #[.pointer (some ⟨B, 0, none⟩), .pointer (some ⟨bb, 0, none⟩)]] w fun r w' => (∃ v, r = .returned v ∧ Bv w' v L1 H1 L2 H2) ∧ Gr w w' := by
  have g0 : Hid _ := gr2 (w := w) (.cells #[.bool false, .slice none 0 0, .int .i64 0, .bool false, .slice none 0 0, .int .i64 0, .bool false, .slice none 0 0, .int .i64 0, .bool false, .slice none 0 0, .int .i64 0] 106) (.cells #[.bool false, .slice none 0 0, .int .i64 0, .bool false, .slice none 0 0, .int .i64 0, .bool false, .slice none 0 0, .int .i64 0, .bool false, .slice none 0 0, .int .i64 0] 106)
  have kb0 : Hid _ := second_block w (.cells #[.bool false, .slice none 0 0, .int .i64 0, .bool false, .slice none 0 0, .int .i64 0, .bool false, .slice none 0 0, .int .i64 0, .bool false, .slice none 0 0, .int .i64 0] 106) (.cells #[.bool false, .slice none 0 0, .int .i64 0, .bool false, .slice none 0 0, .int .i64 0, .bool false, .slice none 0 0, .int .i64 0, .bool false, .slice none 0 0, .int .i64 0] 106)
  have ka0 : Hid _ := ((Gr.refl (w.alloc (.cells #[.bool false, .slice none 0 0, .int .i64 0, .bool false, .slice none 0 0, .int .i64 0, .bool false, .slice none 0 0, .int .i64 0, .bool false, .slice none 0 0, .int .i64 0] 106))).alloc (.cells #[.bool false, .slice none 0 0, .int .i64 0, .bool false, .slice none 0 0, .int .i64 0, .bool false, .slice none 0 0, .int .i64 0, .bool false, .slice none 0 0, .int .i64 0] 106)).keepH (new_at w (.cells #[.bool false, .slice none 0 0, .int .i64 0, .bool false, .slice none 0 0, .int .i64 0, .bool false, .slice none 0 0, .int .i64 0, .bool false, .slice none 0 0, .int .i64 0] 106))
  have hB := lt_of_heap h
  go_enter Tryz.func71, Tryz.ntmps71
  go_wp2
  go_step3
  go_wp2
  go_step3
  go_wp2
  refine wp_loop_once ?_
  go_wp2_with (first
    | (go_at_call 125; (with_reducible refine (X.out _ g0.out).mono ?_); rintro r w1 ⟨⟨_, rfl, s3, a3, n3, c3, e3, s4, a4, n4, c4, e4, s5, a5, n5, c5, e5, s6, a6, n6, c6, e6, rfl, d3, d4, d5, d6⟩, g1⟩; have kb1 := g1.keepH kb0.out; have nr := NoR.of kb1 rfl; have gx := gx12 w1 (w.heap.size + 1) (.bool s3) (.slice a3 n3 c3) (.int .i64 e3) (.bool s4) (.slice a4 n4 c4) (.int .i64 e4) (.bool s5) (.slice a5 n5 c5) (.int .i64 e5) (.bool s6) (.slice a6 n6 c6) (.int .i64 e6); obtain ⟨x0, x1, x2, x3, x4, x5, x6, x7, x8, x9, x10, x11, y0, y1, y2, y3, y4, y5, y6, y7, y8, y9, y10, y11⟩ := out12 kb1; have rk := gx.keepc (Nat.ne_of_lt (Nat.lt_succ_of_lt hB)) (g1.keep (g0.out.keep h.cell)))
    | fail)
  have kb2 := putB12 kb1 (.bool s3) (.slice a3 n3 c3) (.int .i64 e3) (.bool s4) (.slice a4 n4 c4) (.int .i64 e4) (.bool s5) (.slice a5 n5 c5) (.int .i64 e5) (.bool s6) (.slice a6 n6 c6) (.int .i64 e6)
  have D3 := d3.gx nr gx
  have D4 := d4.gx nr gx
  have D5 := d5.gx nr gx
  have D6 := d6.gx nr gx
  have G2 : Hid (Gr w _) := gx.gr (Nat.le_succ _) (g0.out.trans g1)
  have ka2 := gx.keepH (Nat.ne_of_lt (Nat.lt_succ_self _)) (g1.keepH ka0.out)
  clear x0 x1 x2 x3 x4 x5 x6 x7 x8 x9 x10 x11 y0 y1 y2 y3 y4 y5 y6 y7 y8 y9 y10 y11 rk nr gx d3 d4 d5 d6 kb1
  generalize ((((((((((((w1.setCell ⟨w.heap.size + 1, 0, none⟩ (.bool s3)).setCell ⟨w.heap.size + 1, 1, none⟩ (.slice a3 n3 c3)).setCell ⟨w.heap.size + 1, 2, none⟩ (.int .i64 e3)).setCell ⟨w.heap.size + 1, 3, none⟩ (.bool s4)).setCell ⟨w.heap.size + 1, 4, none⟩ (.slice a4 n4 c4)).setCell ⟨w.heap.size + 1, 5, none⟩ (.int .i64 e4)).setCell ⟨w.heap.size + 1, 6, none⟩ (.bool s5)).setCell ⟨w.heap.size + 1, 7, none⟩ (.slice a5 n5 c5)).setCell ⟨w.heap.size + 1, 8, none⟩ (.int .i64 e5)).setCell ⟨w.heap.size + 1, 9, none⟩ (.bool s6)).setCell ⟨w.heap.size + 1, 10, none⟩ (.slice a6 n6 c6)).setCell ⟨w.heap.size + 1, 11, none⟩ (.int .i64 e6)) = w2 at *
  refine (Y.out w2 _ _ _ _ _ _ _ _ _ _ G2.out D3 D4).mono ?_
  rintro r w3 ⟨rfl, g3⟩
  obtain ⟨x0, x1, x2, x3, x4, x5, x6, x7, x8, x9, x10, x11, -⟩ := out12 (g3.keepH kb2)
  go_wp2_with (first
    | (go_at_call 121; (with_reducible refine (Z.out _ _ _ _ _ _ _ _ _ _ _ (G2.out.trans g3) (D5.gr g3) (D6.gr g3)).mono ?_); rintro r w4 ⟨rfl, g4⟩; have ka4 := g4.keepH (g3.keepH ka2); have nr := NoR.of ka4 rfl; obtain ⟨z0, z1, z2, z3, z4, z5, z6, z7, z8, z9, z10, z11, -⟩ := out12 (g4.keepH (g3.keepH kb2)); obtain ⟨x0', x1', x2', x3', x4', x5', x6', x7', x8', x9', x10', x11', y0, y1, y2, y3, y4, y5, y6, y7, y8, y9, y10, y11⟩ := out12 ka4))
  rw [Exit.noGoto_ret]
  refine bodyPost_ret (v := .agg #[.bool s3, .slice a3 n3 c3, .int .i64 e3, .bool s4, .slice a4 n4 c4, .int .i64 e4, .bool s5, .slice a5 n5 c5, .int .i64 e5, .bool s6, .slice a6 n6 c6, .int .i64 e6]) ?_ rfl ⟨⟨_, rfl, _, _, _, _, _, _, _, _, _, _, _, _, _, _, _, _, _, _, _, _, rfl, ((D3.gr g3).gr g4).gx nr (gx12 _ _ _ _ _ _ _ _ _ _ _ _ _ _), ((D4.gr g3).gr g4).gx nr (gx12 _ _ _ _ _ _ _ _ _ _ _ _ _ _), ((D5.gr g3).gr g4).gx nr (gx12 _ _ _ _ _ _ _ _ _ _ _ _ _ _), ((D6.gr g3).gr g4).gx nr (gx12 _ _ _ _ _ _ _ _ _ _ _ _ _ _)⟩, (gx12 _ _ _ _ _ _ _ _ _ _ _ _ _ _).gr (Nat.le_refl _) ((G2.out.trans g3).trans g4)⟩
  simp [results, Tryz.results71, go_sem, x0', x1', x2', x3', x4', x5', x6', x7', x8', x9', x10', x11']
end Go.Proofs.YthilajhciifhaaaGreatDoor
namespace Go.Proofs.YthilajhciifhaaaGreatDoor
open Go.RowKit
set_option linter.unusedVariables false
theorem rightOrder (o : Int) (w : World) : Calls Tryz.prog 70 #[.int .i64 o] w fun r w' => r = .returned (.bool (decide (0 ≤ o ∧ o ≤ 14))) ∧ w' = w := by
  by_cases h1 : 0 ≤ o
  · by_cases h2 : o ≤ 14
    · rw [decide_eq_true ⟨h1, h2⟩]
      go_enter Tryz.func70, Tryz.ntmps70
      go_wp2
      go_ret
      exact ⟨rfl, rfl⟩
    · rw [decide_eq_false (fun h => h2 h.2)]
      go_enter Tryz.func70, Tryz.ntmps70
      go_wp2
      go_ret
      exact ⟨rfl, rfl⟩
  · rw [decide_eq_false (fun h => h1 h.1)]
    go_enter Tryz.func70, Tryz.ntmps70
    go_wp2
    go_ret
    exact ⟨rfl, rfl⟩
theorem placeOf (o : Nat) (st : Int) (w : World) (ho : o ≤ 14) : Calls Tryz.prog 72 #[.int .i64 (o : Int), .int .i64 st] w fun r w' => r = .returned (.int .i64 ((st * ((2 ^ (14 - o) : Nat) : Int)) % 16384)) ∧ w' = w := by
  go_enter Tryz.func72, Tryz.ntmps72
  go_wp2
  go_ret
  refine ⟨?_, rfl⟩
  show Ending.returned (Value.int _ _) = _
  rw [and_turn, Int.natCast_pow]
  show Ending.returned (Value.int _ (wrap64 (st * (2 : Int) ^ (14 - o)) % 16384)) = Ending.returned (Value.int _ ((st * (2 : Int) ^ (14 - o)) % 16384))
  generalize st * (2 : Int) ^ (14 - o) = z
  congr 2
  unfold wrap64
  omega
end Go.Proofs.YthilajhciifhaaaGreatDoor
