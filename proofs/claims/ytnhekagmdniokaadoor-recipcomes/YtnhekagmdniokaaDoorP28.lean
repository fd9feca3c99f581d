import Derived.Test.YtnhekagmdniokaaDoorP27
namespace Go.Proofs.YtnhekagmdniokaaDoor
open Go.RowKit
set_option linter.unusedVariables false
set_option linter.unusedSimpArgs false

set_option maxRecDepth 8000 in
set_option maxHeartbeats 4000000 in
theorem recA (s : Bool) (ad1 : Option Addr) (n1 c1 b D : Nat) (w : World) (hd : Wh w s ad1 n1 c1 (D : Int)) (hD : 0 < D) (hb : b ≤ 262144) (L : Nat) (hL : bl D = L) (hlt : b + 1 < L) :
    Calls Tryd.prog 21 #[.agg #[.bool s, .slice ad1 n1 c1], .int .i64 (b : Int)] w fun r w' => ∃ a q c d, r = .returned (.tuple #[.agg #[.bool a, .slice q c d], .int .i64 0]) ∧ Hid (Wh w' a q c d ((2 ^ b / D : Nat) : Int)) ∧ Hid (Fresh w.heap.size w' q c d) ∧ Gr w w' := by
  have hq : Hid (2 ^ b / D = 0) := by
    refine Nat.div_eq_of_lt ?_
    obtain ⟨h1, h2, h3⟩ := bl_pow hD hL
    exact Nat.lt_of_lt_of_le (Nat.pow_lt_pow_right (by omega) (by omega)) h2
  have BT : Hid (∀ w1, Gr w w1 → Calls Tryd.prog 34 #[.agg #[.bool s, .slice ad1 n1 c1]] w1 fun r w' => r = .returned (.tuple #[.int .i64 (L : Int), .int .i64 0]) ∧ Gr w1 w') := fun w1 g => by
    have := bitsL s ad1 n1 c1 (D : Int) w1 (hd.gr g)
    rw [Int.natAbs_natCast, hL] at this
    exact this
  have hli : (b : Int) + 1 < (L : Int) := by omega
  have HB := Bx2.mk' w s ad1 n1 c1
  have GW : Gr w ((w.alloc (.cells #[.bool s, .slice ad1 n1 c1] 24)).alloc (.cells #[.bool false, .slice none 0 0] 24)) := ((Gr.refl w).alloc _).alloc _
  have k0 := HB.a0
  have k1 := HB.a1
  obtain ⟨z0, z1, z2, z3⟩ := HB.o
  have tok0 : True := trivial
  clear hd hL hlt
  go_enter Tryd.func21, Tryd.ntmps21
  go_wp2_with (first | (go_at_call 34; (with_reducible refine (BT.out _ GW).mono ?_); rintro r w1 ⟨rfl, g1⟩; replace HB := HB.gr g1; clear k0 k1 z0 z1 z2 z3; have k0 := HB.a0; have k1 := HB.a1; obtain ⟨z0, z1, z2, z3⟩ := HB.o; replace GW := GW.trans g1))
  have hG : Hid (Gr w ((w1.setCell ⟨w.heap.size + 1, 0, none⟩ (.bool false)).setCell ⟨w.heap.size + 1, 1, none⟩ (.slice none 0 0))) := (GW.setCell (p := ⟨w.heap.size + 1, 0, none⟩) (by show _ ≤ w.heap.size + 1; omega) _).setCell (p := ⟨w.heap.size + 1, 1, none⟩) (by show _ ≤ w.heap.size + 1; omega) _
  refine bodyPost_ret (v := .tuple #[.agg #[.bool false, .slice none 0 0], .int .i64 0]) ?_ rfl ⟨false, none, 0, 0, rfl, (by rw [hq.out]; exact Wh.nil _), Fresh.nil _ _, hG.out⟩
  simp [results, Tryd.results21, go_sem, z0, z1]
set_option maxRecDepth 8000 in
set_option maxHeartbeats 4000000 in
theorem recB (s : Bool) (ad1 : Option Addr) (n1 c1 b D : Nat) (w : World) (hd : Wh w s ad1 n1 c1 (D : Int)) (hD : 0 < D) (hb : b ≤ 262144) (L : Nat) (hL : bl D = L) (hlt : L ≤ b + 1) (hb63 : b < 63) :
    Calls Tryd.prog 21 #[.agg #[.bool s, .slice ad1 n1 c1], .int .i64 (b : Int)] w fun r w' => ∃ a q c d, r = .returned (.tuple #[.agg #[.bool a, .slice q c d], .int .i64 0]) ∧ Hid (Wh w' a q c d ((2 ^ b / D : Nat) : Int)) ∧ Hid (Fresh w.heap.size w' q c d) ∧ Gr w w' := by
  have hDl : D < 9223372036854775808 := by
    obtain ⟨h1, h2, h3⟩ := bl_pow hD hL
    exact Nat.lt_of_lt_of_le h3 (Nat.le_trans (Nat.pow_le_pow_right (by omega) (show L ≤ 63 by omega)) (by decide))
  have hPl : 2 ^ b ≤ 4611686018427387904 := Nat.le_trans (Nat.pow_le_pow_right (by omega) (show b ≤ 62 by omega)) (by decide)
  have BT : Hid (∀ w1, Gr w w1 → Calls Tryd.prog 34 #[.agg #[.bool s, .slice ad1 n1 c1]] w1 fun r w' => r = .returned (.tuple #[.int .i64 (L : Int), .int .i64 0]) ∧ Gr w1 w') := fun w1 g => by
    have := bitsL s ad1 n1 c1 (D : Int) w1 (hd.gr g)
    rw [Int.natAbs_natCast, hL] at this
    exact this
  have SM : Hid (∀ w1, Gr w w1 → Calls Tryd.prog 35 #[.agg #[.bool s, .slice ad1 n1 c1]] w1 fun r w' => r = .returned (.tuple #[.int .i64 (D : Int), .bool true]) ∧ Gr w1 w') := fun w1 g => by
    have := smallL s ad1 n1 c1 (D : Int) w1 (hd.gr g)
    have e1 : smB (D : Int) = true := by unfold smB; exact decide_eq_true ⟨by omega, by omega⟩
    have e2 : smI (D : Int) = (D : Int) := by unfold smI; rw [e1]; rfl
    rw [e1, e2] at this
    exact this
  have hQ : 2 ^ b / D ≤ 4611686018427387904 := Nat.le_trans (Nat.div_le_self _ _) hPl
  obtain ⟨Q, hQe⟩ : ∃ Q, 2 ^ b / D = Q := ⟨_, rfl⟩
  rw [hQe] at hQ ⊢
  have OF : Hid (∀ w1, Calls Tryd.prog 36 #[.int .i64 (wrap64 (((2 : Int) ^ b).tdiv (D : Int)))] w1 fun r w' => ∃ a b c d, r = .returned (.agg #[.bool a, .slice b c d]) ∧ Hid (Wh w' a b c d (Q : Int)) ∧ Hid (Fresh w1.heap.size w' b c d) ∧ Gr w1 w') := fun w1 => by
    have e1 : (2 : Int) ^ b = ((2 ^ b : Nat) : Int) := by push_cast; rfl
    have e2 : ((2 ^ b : Nat) : Int).tdiv (D : Int) = (Q : Int) := by
      rw [Int.tdiv_eq_ediv_of_nonneg (Int.natCast_nonneg _), ← hQe]
      exact_mod_cast rfl
    have e3 : wrap64 (Q : Int) = (Q : Int) := by unfold wrap64; omega
    rw [e1, e2, e3]
    exact ofL (Q : Int) (by omega) (by omega) w1
  have SH : IntKind.i64.wrap ((2 : Int) ^ b) = (2 : Int) ^ b := by
    rw [IntKind.wrap_i64]
    have : (2 : Int) ^ b = ((2 ^ b : Nat) : Int) := by push_cast; rfl
    rw [this]
    generalize 2 ^ b = P at *
    omega
  have HF : Hid ((Q : Int).natAbs < TopN) := lt_top (by omega)
  have hli : ¬ (b : Int) + 1 < (L : Int) := by omega
  have hbi : (b : Int) < 63 := by omega
  have hmin : min b 64 = b := by omega
  have hDz : ¬ (D : Int) = 0 := by omega
  have hDz2 : ((D : Int) == 0) = false := by simp; omega
  have hDm : ¬ (D : Int) = -1 := by omega
  have HB := Bx2.mk' w s ad1 n1 c1
  have GW : Gr w ((w.alloc (.cells #[.bool s, .slice ad1 n1 c1] 24)).alloc (.cells #[.bool false, .slice none 0 0] 24)) := ((Gr.refl w).alloc _).alloc _
  have k0 := HB.a0
  have k1 := HB.a1
  obtain ⟨z0, z1, z2, z3⟩ := HB.o
  have tok0 : True := trivial
  clear hd hL hlt hQe
  go_enter Tryd.func21, Tryd.ntmps21
  go_wp2_with (first | (go_at_call 34; (with_reducible refine (BT.out _ GW).mono ?_); rintro r w1 ⟨rfl, g1⟩; replace HB := HB.gr g1; clear k0 k1 z0 z1 z2 z3; have k0 := HB.a0; have k1 := HB.a1; obtain ⟨z0, z1, z2, z3⟩ := HB.o; replace GW := GW.trans g1) | (go_at_call 35; (with_reducible refine (SM.out _ GW).mono ?_); rintro r w2 ⟨rfl, g2⟩; replace HB := HB.gr g2; clear k0 k1 z0 z1 z2 z3; have k0 := HB.a0; have k1 := HB.a1; obtain ⟨z0, z1, z2, z3⟩ := HB.o; replace GW := GW.trans g2) | (go_at_call 36; (with_reducible refine (OF.out _).mono ?_); rintro r w3 ⟨a5, b5, c5, d5, rfl, WH, FH, g3⟩; have hw4 := GW.size; replace HB := HB.gr g3; clear k0 k1 z0 z1 z2 z3; have k0 := HB.a0; have k1 := HB.a1; obtain ⟨z0, z1, z2, z3⟩ := HB.o; replace GW := GW.trans g3))
  have hG : Hid (Gr w ((w3.setCell ⟨w.heap.size + 1, 0, none⟩ (.bool a5)).setCell ⟨w.heap.size + 1, 1, none⟩ (.slice b5 c5 d5))) := (GW.setCell (p := ⟨w.heap.size + 1, 0, none⟩) (by show _ ≤ w.heap.size + 1; omega) _).setCell (p := ⟨w.heap.size + 1, 1, none⟩) (by show _ ≤ w.heap.size + 1; omega) _
  have T8 := (show Tol w.heap.size w3 a5 b5 c5 d5 0 _ from Or.inl ⟨HF.out, rfl, WH.out, FH.out.low hw4⟩).set2 HB.ob (.bool a5) (.slice b5 c5 d5) (by decide)
  obtain ⟨_, W8, F8⟩ := T8.fits HF.out
  refine bodyPost_ret (v := .tuple #[.agg #[.bool a5, .slice b5 c5 d5], .int .i64 0]) ?_ rfl ⟨a5, b5, c5, d5, rfl, W8, F8, hG.out⟩
  simp [results, Tryd.results21, go_sem, z0, z1]
end Go.Proofs.YtnhekagmdniokaaDoor
