import Derived.Test.YtnmdnhmfmahjaaaGreatDoorM36
namespace Go.Proofs.YtnmdnhmfmahjaaaGreatDoor
open Go.RowKit
set_option linter.unusedVariables false

theorem sg_key (d : Int) : (0 < sg d ↔ 0 < d) ∧ (sg d = 0 ↔ d = 0) := by
  rcases Int.lt_trichotomy d 0 with h | h | h
  · rw [sg_neg h]; omega
  · subst h; rw [sg_zero]; omega
  · rw [sg_pos h]; omega
theorem diff_form {q c P : Nat} : ((((2 * q + 1) * P : Nat) : Int) - (((2 * q + 1) / 2 ^ (c + 1) * 2 ^ (c + 1) * P : Nat) : Int) - ((2 ^ c * P : Nat) : Int)) = (((2 * q + 1) % 2 ^ c : Nat) + (2 ^ c : Nat) * (((2 * q + 1) / 2 ^ c % 2 : Nat) : Int) - (2 ^ c : Nat)) * (P : Int) := by
  have h := Nat.div_add_mod (2 * q + 1) (2 ^ (c + 1))
  have h2 : (2 * q + 1) % 2 ^ (c + 1) = (2 * q + 1) % 2 ^ c + 2 ^ c * ((2 * q + 1) / 2 ^ c % 2) := Nat.mod_pow_succ
  rw [h2] at h
  have e1 : (((2 * q + 1 : Nat)) : Int) = (((2 * q + 1) / 2 ^ (c + 1) * 2 ^ (c + 1) : Nat) : Int) + (((2 * q + 1) % 2 ^ c + 2 ^ c * ((2 * q + 1) / 2 ^ c % 2) : Nat) : Int) := by
    rw [← Int.natCast_add, Nat.mul_comm ((2 * q + 1) / 2 ^ (c + 1))]
    exact congrArg _ h.symm
  rw [Int.natCast_mul (2 * q + 1) P, Int.natCast_mul _ P, Int.natCast_mul (2 ^ c) P, e1, ← Int.sub_mul, ← Int.sub_mul]
  congr 1
  rw [Int.natCast_add ((2 * q + 1) % 2 ^ c), Int.natCast_mul (2 ^ c)]
  omega
/-- the reference's rounding is the program's -/
theorem near_num {q b : Nat} {e last : Int} (hb : 0 < b) (hbe : last - e = (b : Int)) (he : 0 ≤ e + KK) :
    (0 < sg (sv KK false (2 * q + 1) e - sv KK false ((2 * q + 1) / 2 ^ b) last - sv KK false 1 (last - 1)) ∨ (sg (sv KK false (2 * q + 1) e - sv KK false ((2 * q + 1) / 2 ^ b) last - sv KK false 1 (last - 1)) = 0 ∧ (2 * q + 1) / 2 ^ b % 2 = 1)) ↔ upB (2 * q + 1) b = true := by
  obtain ⟨c, rfl⟩ : ∃ c, b = c + 1 := ⟨b - 1, by omega⟩
  have E1 : sv KK false (2 * q + 1) e = (((2 * q + 1) * 2 ^ (e + KK).toNat : Nat) : Int) := by unfold sv; simp only [Bool.false_eq_true, if_false]
  have E2 : sv KK false ((2 * q + 1) / 2 ^ (c + 1)) last = (((2 * q + 1) / 2 ^ (c + 1) * 2 ^ (c + 1) * 2 ^ (e + KK).toNat : Nat) : Int) := by
    unfold sv
    simp only [Bool.false_eq_true, if_false]
    rw [Nat.mul_assoc, ← Nat.pow_add, show (last + KK).toNat = c + 1 + (e + KK).toNat by omega]
  have E3 : sv KK false 1 (last - 1) = ((2 ^ c * 2 ^ (e + KK).toNat : Nat) : Int) := by
    unfold sv
    simp only [Bool.false_eq_true, if_false]
    rw [Nat.one_mul, ← Nat.pow_add, show (last - 1 + KK).toNat = c + (e + KK).toNat by omega]
  rw [E1, E2, E3, diff_form, (sg_key _).1, (sg_key _).2]
  have hP : (0 : Int) < ((2 ^ (e + KK).toNat : Nat) : Int) := Int.ofNat_lt.2 (Nat.two_pow_pos _)
  generalize ((2 ^ (e + KK).toNat : Nat) : Int) = P at *
  unfold upB bitB
  rw [show c + 1 - 1 = c by omega]
  have hlt : (2 * q + 1) % 2 ^ c < 2 ^ c := Nat.mod_lt _ (Nat.two_pow_pos c)
  rcases Nat.mod_two_eq_zero_or_one ((2 * q + 1) / 2 ^ c) with hy | hy
  · rw [hy]
    have hneg : (((2 * q + 1) % 2 ^ c : Nat) + (2 ^ c : Nat) * ((0 : Nat) : Int) - (2 ^ c : Nat)) * P < 0 := Int.mul_neg_of_neg_of_pos (by omega) hP
    constructor
    · rintro (h | h) <;> omega
    · intro h; simp at h
  · rw [hy]
    have e0 : (((2 * q + 1) % 2 ^ c : Nat) + (2 ^ c : Nat) * ((1 : Nat) : Int) - (2 ^ c : Nat)) = (((2 * q + 1) % 2 ^ c : Nat) : Int) := by omega
    rw [e0]
    rcases Nat.eq_zero_or_pos c with h0 | h0
    · subst h0
      simp
    · have hodd : 0 < (2 * q + 1) % 2 ^ c := by
        obtain ⟨d, rfl⟩ : ∃ d, c = d + 1 := ⟨c - 1, by omega⟩
        have := Nat.mod_mod_of_dvd (2 * q + 1) (show 2 ∣ 2 ^ (d + 1) from ⟨2 ^ d, by rw [Nat.pow_succ, Nat.mul_comm]⟩)
        omega
      have hpos : 0 < (((2 * q + 1) % 2 ^ c : Nat) : Int) * P := Int.mul_pos (by omega) hP
      constructor
      · intro _; simp; omega
      · intro _; exact Or.inl hpos
end Go.Proofs.YtnmdnhmfmahjaaaGreatDoor
namespace Go.Proofs.YtnmdnhmfmahjaaaGreatDoor.Fl
open Go.RowKit
open Ieee (double)
set_option linter.unusedVariables false

/-- Float and the reference's tell the same -/
def FlBoth (args : Array Value) (w : World) : Prop := ∃ (F : Nat) (c : Int), (∀ w1, Gr w w1 → Calls Tryz.prog 7 args w1 fun r w' => r = .returned (.tuple #[.float .f64 F, .int .i64 c]) ∧ Gr w1 w') ∧ (∀ w1, Gr w w1 → Calls Tryz.prog 8 args w1 fun r w' => r = .returned (.tuple #[.float .f64 F, .int .i64 c]) ∧ Gr w1 w')
theorem floatA (s : Bool) (ad : Option Addr) (n cap : Nat) (e : Int) (w : World) (R : Hid (∀ w1, Gr w w1 → Calls Tryz.prog 27 #[.agg #[.bool s, .slice ad n cap, .int .i64 e]] w1 fun r w' => r = .returned (.bool false) ∧ Gr w1 w')) :
    Calls Tryz.prog 7 #[.agg #[.bool s, .slice ad n cap, .int .i64 e]] w fun r w' => r = .returned (.tuple #[.float .f64 0, .int .i64 2]) ∧ Gr w w' := by
  have G0 : Gr w (w.alloc (.cells #[.bool s, .slice ad n cap, .int .i64 e] 24)) := (Gr.refl w).alloc _
  go_enter Tryz.func7, Tryz.ntmps7
  go_wp2_with (go_at_call 27; (with_reducible refine (R.out _ G0).mono ?_); rintro r w1 ⟨rfl, g1⟩)
  go_ret2
  exact ⟨rfl, G0.trans g1⟩
theorem rfloatA (s : Bool) (ad : Option Addr) (n cap : Nat) (e : Int) (w : World) (R : Hid (∀ w1, Gr w w1 → Calls Tryz.prog 32 #[.agg #[.bool s, .slice ad n cap, .int .i64 e]] w1 fun r w' => r = .returned (.bool false) ∧ Gr w1 w')) :
    Calls Tryz.prog 8 #[.agg #[.bool s, .slice ad n cap, .int .i64 e]] w fun r w' => r = .returned (.tuple #[.float .f64 0, .int .i64 2]) ∧ Gr w w' := by
  have G0 : Gr w (w.alloc (.cells #[.bool s, .slice ad n cap, .int .i64 e] 24)) := (Gr.refl w).alloc _
  go_enter Tryz.func8, Tryz.ntmps8
  go_wp2_with (go_at_call 32; (with_reducible refine (R.out _ G0).mono ?_); rintro r w1 ⟨rfl, g1⟩)
  go_ret2
  exact ⟨rfl, G0.trans g1⟩
theorem float_z (s : Bool) (ad : Option Addr) (cap : Nat) (e : Int) (w : World) (R : Hid (∀ w1, Gr w w1 → Calls Tryz.prog 27 #[.agg #[.bool s, .slice ad 0 cap, .int .i64 e]] w1 fun r w' => r = .returned (.bool true) ∧ Gr w1 w')) :
    Calls Tryz.prog 7 #[.agg #[.bool s, .slice ad 0 cap, .int .i64 e]] w fun r w' => r = .returned (.tuple #[.float .f64 0, .int .i64 0]) ∧ Gr w w' := by
  have G0 : Gr w (w.alloc (.cells #[.bool s, .slice ad 0 cap, .int .i64 e] 24)) := (Gr.refl w).alloc _
  have P0 := hide (blk1 w (.cells #[.bool s, .slice ad 0 cap, .int .i64 e] 24))
  go_enter Tryz.func7, Tryz.ntmps7
  go_wp2_with (go_at_call 27; (with_reducible refine (R.out _ G0).mono ?_); rintro r w1 ⟨rfl, g1⟩; have P1 := g1.keepH P0.out; obtain ⟨x0, x1, x2⟩ := cells_ofT P1)
  go_ret2
  exact ⟨rfl, G0.trans g1⟩
theorem near_z (s : Bool) (ad : Option Addr) (n cap : Nat) (e : Int) (w : World) (hx : Lim w ad n cap 18446744073709551616 0) :
    Calls Tryz.prog 35 #[.agg #[.bool s, .slice ad n cap, .int .i64 e]] w fun r w' => r = .returned (.float .f64 0) ∧ Gr w w' := by
  have Z1 : Hid (∀ w1, Gr w w1 → Calls Tryz.prog 48 #[.agg #[.bool s, .slice ad n cap, .int .i64 e]] w1 fun r w' => r = .returned (.bool true) ∧ Gr w1 w') := fun w1 g => zero57z s ad n cap e w1 (hx.gr g)
  have G0 : Gr w (w.alloc (.cells #[.bool s, .slice ad n cap, .int .i64 e] 54)) := (Gr.refl w).alloc _
  clear hx
  go_enter Tryz.func35, Tryz.ntmps35
  go_wp2_with (go_at_call 48; (with_reducible refine (Z1.out _ G0).mono ?_); rintro r w1 ⟨rfl, g1⟩)
  go_ret
  exact ⟨rfl, G0.trans g1⟩
set_option maxRecDepth 10000 in
set_option maxHeartbeats 2000000 in
theorem rfloat_o (s : Bool) (ad : Option Addr) (n cap x F : Nat) (e : Int) (w : World) (dx : DyAt w s ad n cap e x) (ht : e + (bl x : Int) > 1100) :
    Calls Tryz.prog 8 #[.agg #[.bool s, .slice ad n cap, .int .i64 e]] w fun r w' => r = .returned (.tuple #[.float .f64 0, .int .i64 6]) ∧ Gr w w' := by
  have RR := dx.r25
  have e1 := dx.low
  have e2 := dx.high
  have bx := dx.bl
  have D1 : Hid (∀ w1, Gr w w1 → Calls Tryz.prog 33 #[.agg #[.bool s, .slice ad n cap, .int .i64 e]] w1 fun r w' => ∃ ad' n' cap', r = .returned (.agg #[.bool s, .slice ad' n' cap', .int .i64 e]) ∧ Hid (Lim w' ad' n' cap' 18446744073709551616 x) ∧ Gr w1 w') := fun w1 g => dyad28 s ad n cap x e w1 (dx.lim.gr g) (by omega)
  have T1 : Hid (∀ a m k w1, Lim w1 a m k 18446744073709551616 x → Calls Tryz.prog 34 #[.agg #[.bool s, .slice a m k, .int .i64 e]] w1 fun r w' => r = .returned (.int .i64 (e + (bl x : Int))) ∧ Gr w1 w') := fun a m k w1 h => top68 s a m k x e w1 h (by omega) (by omega) (by omega)
  have G0 : Gr w (w.alloc (.cells #[.bool s, .slice ad n cap, .int .i64 e] 24)) := (Gr.refl w).alloc _
  have P0 := hide (blk1 w (.cells #[.bool s, .slice ad n cap, .int .i64 e] 24))
  clear dx
  go_enter Tryz.func8, Tryz.ntmps8
  go_wp2_with (first | (go_at_call 32; (with_reducible refine (RR.out _ G0).mono ?_); rintro r w1 ⟨rfl, g1⟩; have P1 := g1.keepH P0.out; have G1 := G0.trans g1; obtain ⟨x0, x1, x2⟩ := cells_ofT P1) | (go_at_call 33; (with_reducible refine (D1.out _ G1).mono ?_); rintro r w2 ⟨a2, m2, k2, rfl, hl2, g2⟩; have BL := blk1 w2 (.cells #[.bool s, .slice a2 m2 k2, .int .i64 e] 54); have gL := (Gr.refl w2).alloc (.cells #[.bool s, .slice a2 m2 k2, .int .i64 e] 54); have G2 := (G1.trans g2).trans gL; have hlL := hl2.out.gr gL; clear x0 x1 x2; obtain ⟨y0, y1, y2⟩ := cells_ofT BL) | (go_at_call 34; (with_reducible refine (T1.out _ _ _ _ hlL).mono ?_); rintro r w3 ⟨rfl, g3⟩; have G3 := G2.trans g3; have B3 := g3.keepH BL; have hl3 := hlL.gr g3; clear y0 y1 y2; obtain ⟨y0, y1, y2⟩ := cells_ofT B3))
  go_ret2
  exact ⟨rfl, G3⟩
set_option maxRecDepth 10000 in
set_option maxHeartbeats 2000000 in
theorem rfloat_f (s : Bool) (ad : Option Addr) (n cap x F : Nat) (e : Int) (w : World) (dx : DyAt w s ad n cap e x) (ht : ¬ e + (bl x : Int) > 1100) (HN : Hid (∀ a m k w1, Gr w w1 → Lim w1 a m k 18446744073709551616 x → Calls Tryz.prog 35 #[.agg #[.bool s, .slice a m k, .int .i64 e]] w1 fun r w' => r = .returned (.float .f64 F) ∧ Gr w1 w')) (hs : ∀ w, (binOp .sub 27 (.float .f64 F) (.float .f64 F)).run Tryz.prog w = .ok (.float .f64 0) w) :
    Calls Tryz.prog 8 #[.agg #[.bool s, .slice ad n cap, .int .i64 e]] w fun r w' => r = .returned (.tuple #[.float .f64 F, .int .i64 0]) ∧ Gr w w' := by
  have RR := dx.r25
  have e1 := dx.low
  have e2 := dx.high
  have bx := dx.bl
  have D1 : Hid (∀ w1, Gr w w1 → Calls Tryz.prog 33 #[.agg #[.bool s, .slice ad n cap, .int .i64 e]] w1 fun r w' => ∃ ad' n' cap', r = .returned (.agg #[.bool s, .slice ad' n' cap', .int .i64 e]) ∧ Hid (Lim w' ad' n' cap' 18446744073709551616 x) ∧ Gr w1 w') := fun w1 g => dyad28 s ad n cap x e w1 (dx.lim.gr g) (by omega)
  have T1 : Hid (∀ a m k w1, Lim w1 a m k 18446744073709551616 x → Calls Tryz.prog 34 #[.agg #[.bool s, .slice a m k, .int .i64 e]] w1 fun r w' => r = .returned (.int .i64 (e + (bl x : Int))) ∧ Gr w1 w') := fun a m k w1 h => top68 s a m k x e w1 h (by omega) (by omega) (by omega)
  have G0 : Gr w (w.alloc (.cells #[.bool s, .slice ad n cap, .int .i64 e] 24)) := (Gr.refl w).alloc _
  have P0 := hide (blk1 w (.cells #[.bool s, .slice ad n cap, .int .i64 e] 24))
  have h2 : (FloatKind.f64.format.order 0 0 != some .eq) = false := by decide +kernel
  clear dx
  go_enter Tryz.func8, Tryz.ntmps8
  go_wp2_with (first | (go_at_call 32; (with_reducible refine (RR.out _ G0).mono ?_); rintro r w1 ⟨rfl, g1⟩; have P1 := g1.keepH P0.out; have G1 := G0.trans g1; obtain ⟨x0, x1, x2⟩ := cells_ofT P1) | (go_at_call 33; (with_reducible refine (D1.out _ G1).mono ?_); rintro r w2 ⟨a2, m2, k2, rfl, hl2, g2⟩; have BL := blk1 w2 (.cells #[.bool s, .slice a2 m2 k2, .int .i64 e] 54); have gL := (Gr.refl w2).alloc (.cells #[.bool s, .slice a2 m2 k2, .int .i64 e] 54); have G2 := (G1.trans g2).trans gL; have hlL := hl2.out.gr gL; clear x0 x1 x2; obtain ⟨y0, y1, y2⟩ := cells_ofT BL) | (go_at_call 34; (with_reducible refine (T1.out _ _ _ _ hlL).mono ?_); rintro r w3 ⟨rfl, g3⟩; have G3 := G2.trans g3; have B3 := g3.keepH BL; have hl3 := hlL.gr g3; clear y0 y1 y2; obtain ⟨y0, y1, y2⟩ := cells_ofT B3) | (go_at_call 35; (with_reducible refine (HN.out _ _ _ _ G3 hl3).mono ?_); rintro r w4 ⟨rfl, g4⟩; have G4 := G3.trans g4))
  go_ret2
  exact ⟨rfl, G4⟩
set_option maxRecDepth 10000 in
set_option maxHeartbeats 2000000 in
theorem rfloat_i (s : Bool) (ad : Option Addr) (n cap x F : Nat) (e : Int) (w : World) (dx : DyAt w s ad n cap e x) (ht : ¬ e + (bl x : Int) > 1100) (HN : Hid (∀ a m k w1, Gr w w1 → Lim w1 a m k 18446744073709551616 x → Calls Tryz.prog 35 #[.agg #[.bool s, .slice a m k, .int .i64 e]] w1 fun r w' => r = .returned (.float .f64 F) ∧ Gr w1 w')) (y : World → Nat) (hs : ∀ w, (binOp .sub 27 (.float .f64 F) (.float .f64 F)).run Tryz.prog w = .ok (.float .f64 (y w)) w.drew) (hy : ∀ w, (FloatKind.f64.format.order (y w) 0 != some .eq) = true) :
    Calls Tryz.prog 8 #[.agg #[.bool s, .slice ad n cap, .int .i64 e]] w fun r w' => r = .returned (.tuple #[.float .f64 0, .int .i64 6]) ∧ Gr w w' := by
  have RR := dx.r25
  have e1 := dx.low
  have e2 := dx.high
  have bx := dx.bl
  have D1 : Hid (∀ w1, Gr w w1 → Calls Tryz.prog 33 #[.agg #[.bool s, .slice ad n cap, .int .i64 e]] w1 fun r w' => ∃ ad' n' cap', r = .returned (.agg #[.bool s, .slice ad' n' cap', .int .i64 e]) ∧ Hid (Lim w' ad' n' cap' 18446744073709551616 x) ∧ Gr w1 w') := fun w1 g => dyad28 s ad n cap x e w1 (dx.lim.gr g) (by omega)
  have T1 : Hid (∀ a m k w1, Lim w1 a m k 18446744073709551616 x → Calls Tryz.prog 34 #[.agg #[.bool s, .slice a m k, .int .i64 e]] w1 fun r w' => r = .returned (.int .i64 (e + (bl x : Int))) ∧ Gr w1 w') := fun a m k w1 h => top68 s a m k x e w1 h (by omega) (by omega) (by omega)
  have G0 : Gr w (w.alloc (.cells #[.bool s, .slice ad n cap, .int .i64 e] 24)) := (Gr.refl w).alloc _
  have P0 := hide (blk1 w (.cells #[.bool s, .slice ad n cap, .int .i64 e] 24))
  clear dx
  go_enter Tryz.func8, Tryz.ntmps8
  go_wp2_with (first | (go_at_call 32; (with_reducible refine (RR.out _ G0).mono ?_); rintro r w1 ⟨rfl, g1⟩; have P1 := g1.keepH P0.out; have G1 := G0.trans g1; obtain ⟨x0, x1, x2⟩ := cells_ofT P1) | (go_at_call 33; (with_reducible refine (D1.out _ G1).mono ?_); rintro r w2 ⟨a2, m2, k2, rfl, hl2, g2⟩; have BL := blk1 w2 (.cells #[.bool s, .slice a2 m2 k2, .int .i64 e] 54); have gL := (Gr.refl w2).alloc (.cells #[.bool s, .slice a2 m2 k2, .int .i64 e] 54); have G2 := (G1.trans g2).trans gL; have hlL := hl2.out.gr gL; clear x0 x1 x2; obtain ⟨y0, y1, y2⟩ := cells_ofT BL) | (go_at_call 34; (with_reducible refine (T1.out _ _ _ _ hlL).mono ?_); rintro r w3 ⟨rfl, g3⟩; have G3 := G2.trans g3; have B3 := g3.keepH BL; have hl3 := hlL.gr g3; clear y0 y1 y2; obtain ⟨y0, y1, y2⟩ := cells_ofT B3) | (go_at_call 35; (with_reducible refine (HN.out _ _ _ _ G3 hl3).mono ?_); rintro r w4 ⟨rfl, g4⟩; have G4 := G3.trans g4))
  go_ret2
  exact ⟨rfl, G4.drew⟩
end Go.Proofs.YtnmdnhmfmahjaaaGreatDoor.Fl
namespace Go.Proofs.YtnmdnhmfmahjaaaGreatDoor.Fl
open Go.RowKit
open Ieee
set_option linter.unusedVariables false

set_option maxHeartbeats 2000000 in
theorem flboth_p (s : Bool) (ad : Option Addr) (n cap q : Nat) (e : Int) (w : World) (dx : DyAt w s ad (n + 1) cap e (2 * q + 1)) : FlBoth #[.agg #[.bool s, .slice ad (n + 1) cap, .int .i64 e]] w := by
  have hkk := KK_eq
  have hle := dx.le
  have hel := dx.low
  have heh := dx.high
  have hbx := dx.bl
  obtain ⟨L, hL⟩ : ∃ L, L = bl (2 * q + 1) := ⟨_, rfl⟩
  have hx1 : 2 * q + 1 < 2 ^ L := hL ▸ bl_lt _
  have hx2 : 2 ^ L ≤ 2 * (2 * q + 1) := hL ▸ bl_le (by omega)
  have hL0 : 0 < L := Nat.pos_of_ne_zero fun h => by rw [h] at hx1; simp at hx1
  rw [← hL] at hbx
  obtain ⟨last, hlast⟩ : ∃ last : Int, last = max ((L : Int) + e - 53) (-1074) := ⟨_, rfl⟩
  obtain ⟨t, ht⟩ : ∃ t : Nat, (t : Int) = last + 1074 := ⟨(last + 1074).toNat, by omega⟩
  obtain ⟨N, hN, hN2, H48, M0, E, n0, hcut, hE1, hE2, hM, hn0, hbM, v, hv, hNv⟩ : ∃ N : Nat, N ≤ 9007199254740992 ∧ (t = 0 ∨ 4503599627370496 ≤ N) ∧
      (∀ w1, Gr w w1 → Calls Tryz.prog 30 #[.slice ad (n + 1) cap, .int .i64 (last - e)] w1 fun r w' => r = .returned (.int .u64 (N : Int)) ∧ Gr w1 w') ∧
      ∃ (M0 : Nat) (E : Int) (n0 : Nat), (∀ s' m e', CutV false (2 * q + 1) e last false s' m e' → s' = false ∧ m = M0 ∧ e' = E) ∧ last ≤ E ∧ E ≤ 1310720 ∧ M0 * 2 ^ (E - last).toNat = n0 ∧ n0 < 18446744073709551615 ∧ bl M0 ≤ 262144 ∧
        ∃ v, sg (sv KK false (2 * q + 1) e - sv KK false M0 E - sv KK false 1 (last - 1)) = v ∧ N = n0 + if 0 < v ∨ (v = 0 ∧ n0 % 2 = 1) then 1 else 0 := by
    by_cases hb : last - e ≤ 0
    · obtain ⟨k, hk⟩ : ∃ k : Nat, (k : Int) = e - last := ⟨(e - last).toNat, by omega⟩
      have hlt : (2 * q + 1) * 2 ^ k < 9007199254740992 := by
        have h1 : (2 * q + 1) * 2 ^ k < 2 ^ L * 2 ^ k := Nat.mul_lt_mul_of_pos_right hx1 (Nat.two_pow_pos k)
        rw [← Nat.pow_add] at h1
        have h2 : 2 ^ (L + k) ≤ 2 ^ 53 := Nat.pow_le_pow_right (by omega) (by omega)
        omega
      have hge : 0 < t → 4503599627370496 ≤ (2 * q + 1) * 2 ^ k := fun h0 => by
        have h1 : 2 ^ L * 2 ^ k ≤ 2 * (2 * q + 1) * 2 ^ k := Nat.mul_le_mul_right _ hx2
        rw [← Nat.pow_add, show L + k = 53 by omega, Nat.mul_assoc] at h1
        omega
      refine ⟨(2 * q + 1) * 2 ^ k, by omega, ?_, fun w1 g => nearest48z ad (n + 1) cap (2 * q + 1) k _ w1 (dx.lim.gr g) (by omega) (by omega) (by omega) (by omega) (by omega), 2 * q + 1, e, (2 * q + 1) * 2 ^ k, ?_, by omega, by omega, by rw [show (e - last).toNat = k by omega], by omega, by omega, _, rfl, ?_⟩
      · by_cases h0 : t = 0
        · exact Or.inl h0
        · exact Or.inr (hge (by omega))
      · rintro s' m e' (⟨h, _⟩ | ⟨_, _, h1, h2, h3⟩ | ⟨_, h, _⟩)
        · omega
        · exact ⟨h1, h2, h3⟩
        · omega
      · have hneg : sg (sv KK false (2 * q + 1) e - sv KK false (2 * q + 1) e - sv KK false 1 (last - 1)) = -1 := by
          rw [Int.sub_self]
          refine sg_neg ?_
          have : 0 < sv KK false 1 (last - 1) := (sv_sign KK false 1 (last - 1) (by omega)).2 rfl
          omega
        rw [hneg]
        have hno : ¬ ((0 : Int) < -1 ∨ ((-1 : Int) = 0 ∧ (2 * q + 1) * 2 ^ k % 2 = 1)) := fun h => by omega
        rw [if_neg hno]
        first | done | rfl
    · obtain ⟨b, hb2⟩ : ∃ b : Nat, (b : Int) = last - e := ⟨(last - e).toNat, by omega⟩
      have hlt : (2 * q + 1) / 2 ^ b < 9007199254740992 := by
        rw [Nat.div_lt_iff_lt_mul (Nat.two_pow_pos b)]
        have h2 : 2 ^ L ≤ 2 ^ (53 + b) := Nat.pow_le_pow_right (by omega) (by omega)
        rw [Nat.pow_add] at h2
        have : (2 : Nat) ^ 53 = 9007199254740992 := rfl
        rw [this] at h2
        omega
      have hup : (upB (2 * q + 1) b).toNat ≤ 1 := by cases upB (2 * q + 1) b <;> decide
      have hge : 0 < t → 4503599627370496 * 2 ^ b ≤ 2 * q + 1 := fun h0 => by
        have h1 : L = 53 + b := by omega
        rw [h1, Nat.pow_add] at hx2
        have : (2 : Nat) ^ 53 = 2 * 4503599627370496 := rfl
        rw [this, Nat.mul_assoc] at hx2
        omega
      refine ⟨(2 * q + 1) / 2 ^ b + (upB (2 * q + 1) b).toNat, by omega, ?_, fun w1 g => ?_, (2 * q + 1) / 2 ^ b, last, (2 * q + 1) / 2 ^ b, ?_, by omega, by omega, by rw [Int.sub_self, Int.toNat_zero, Nat.pow_zero, Nat.mul_one], by omega, Nat.le_trans (bl_div _ _) (by rw [← hL]; omega), _, rfl, ?_⟩
      · by_cases h0 : t = 0
        · exact Or.inl h0
        · have := (Nat.le_div_iff_mul_le (Nat.two_pow_pos b)).2 (hge (by omega))
          exact Or.inr (by omega)
      · have := nearest48p ad (n + 1) cap (2 * q + 1) b w1 (dx.lim.gr g) (by omega) (by omega) (by omega) (by omega)
        rw [hb2] at this
        exact this
      · rintro s' m e' (⟨h, _⟩ | ⟨_, h, _⟩ | ⟨_, _, h1, h2, h3⟩)
        · omega
        · omega
        · rw [if_neg (fun h => h.2 rfl), Nat.add_zero, show (last - e).toNat = b by omega] at h3
          exact ⟨h1, h3, h2⟩
      · congr 1
        have hnn := near_num (q := q) (b := b) (e := e) (last := last) (by omega) hb2.symm (by omega)
        by_cases hu : upB (2 * q + 1) b = true
        · rw [if_pos (hnn.2 hu), hu]; rfl
        · have hu' : upB (2 * q + 1) b = false := by simpa using hu
          rw [if_neg (fun h => hu (hnn.1 h)), hu']; rfl
  have A46 : Hid (∀ w, Calls Tryz.prog 29 #[.float .f64 (floatOfInt FloatKind.f64 (N : Int)), .int .i64 last] w fun e w' => e = .returned (.float .f64 (min (t * 4503599627370496 + N) 9218868437227405312)) ∧ w' = w) := by
    obtain ⟨hMM, _, _⟩ := rung_near t N hN hN2
    intro w
    clear hcut hv hNv H48 dx hx1 hx2
    rw [floatOfInt_W (N : Int) (by omega), show decide ((N : Int) < 0) = false from decide_eq_false (by omega), show ((N : Int)).natAbs = N by omega]
    by_cases h0 : N = 0
    · subst h0
      obtain rfl : t = 0 := by rcases hN2 with h | h; exact h; exact absurd h (by decide)
      have hz : ofN 0 = 0 := M_inj ((ofN_spec 0 (by omega)).1.trans (by rw [Nat.zero_mul, M_zero]))
      rw [hz]
      have := ldexp_same (W false 0) last w (by rw [zeroB_W false 0 (by omega)]; rfl)
      exact this
    · exact ldexpN (ofN N) N (t * 4503599627370496 + N) t last (by omega) (ofN_spec N (by omega)).2.1 (ofN_spec N (by omega)).1 ht (by omega) hMM w
  clear hx1 hx2
  have hlast' : max ((bl (2 * q + 1) : Int) + e - 53) (-1074) = last := by rw [← hL]; exact hlast.symm
  have hI9 : pinfB (absN 9218868437227405312) = true := by
    have h1 := abs_W false 9218868437227405312 (by omega)
    rw [show W false 9218868437227405312 = 9218868437227405312 from rfl] at h1
    have h2 := pinfB_W false 9218868437227405312 (by omega)
    rw [show W false 9218868437227405312 = 9218868437227405312 from rfl] at h2
    exact (congrArg pinfB h1).trans h2
  have NR : ∀ (Y : Nat), (Hid (∀ w, Calls Tryz.prog 29 #[.float .f64 (floatOfInt FloatKind.f64 (N : Int)), .int .i64 last] w fun e w' => e = .returned (.float .f64 Y) ∧ w' = w)) → Hid (∀ a m k w1, Gr w w1 → Lim w1 a m k 18446744073709551616 (2 * q + 1) → Calls Tryz.prog 35 #[.agg #[.bool s, .slice a m k, .int .i64 e]] w1 fun r w' => r = .returned (.float .f64 (if s = true then negN Y else Y)) ∧ Gr w1 w') := fun Y HY a m k w1 g h =>
    nearW s a m k (2 * q + 1) M0 n0 N Y (negN Y) e last E v w1 h (by omega) (by rw [← hL]; omega) hel heh (by rw [← hlast']; congr 1; omega) hcut hE1 hE2 hM hn0 hbM hv hNv HY (fun w => neg_run Y w)
  by_cases htop : e + (bl (2 * q + 1) : Int) > 1100
  · have hge : 9218868437227405312 ≤ t * 4503599627370496 + N := by
      rw [← hL] at htop
      have h0 : 2122 ≤ t := by omega
      have := Nat.mul_le_mul_right 4503599627370496 h0
      omega
    rw [Nat.min_eq_right hge] at A46
    exact ⟨0, 6, fun w1 g => float22o s ad n cap (2 * q + 1) N 9218868437227405312 e last w1 (dx.gr g) (by omega) hlast' (fun w2 g2 => H48 w2 (g.trans g2)) A46 hI9, fun w1 g => rfloat_o s ad (n + 1) cap (2 * q + 1) 0 e w1 (dx.gr g) htop⟩
  · by_cases hf : t * 4503599627370496 + N < 9218868437227405312
    · rw [Nat.min_eq_left (by omega)] at A46
      obtain ⟨y, hy⟩ : ∃ y, y = t * 4503599627370496 + N := ⟨_, rfl⟩
      rw [← hy] at A46 hf
      have hI : pinfB (absN y) = false := by
        have h1 := abs_W false y (by omega)
        rw [show W false y = y from rfl] at h1
        rw [h1]
        have h2 := pinfB_W false y (by omega)
        rw [show W false y = y from rfl] at h2
        rw [h2, decide_eq_false (by omega)]; rfl
      have hNR := NR y A46
      have eF : (if s = true then negN y else y) = W s y := by
        cases s
        · rfl
        · have := neg_W false y (by omega)
          rw [show W false y = y from rfl] at this
          rw [if_pos rfl, this]; rfl
      rw [eF] at hNR
      refine ⟨W s y, 0, fun w1 g => ?_, fun w1 g => rfloat_f s ad (n + 1) cap (2 * q + 1) (W s y) e w1 (dx.gr g) htop (fun a m k w2 g2 h => hNR a m k w2 (g.trans g2) h) (fun w => sub_run w _ _ _ (sub_self s y hf))⟩
      cases s
      · exact float22p ad n cap (2 * q + 1) N y e last w1 (dx.gr g) (by omega) hlast' (fun w2 g2 => H48 w2 (g.trans g2)) A46 hI
      · have := float22n ad n cap (2 * q + 1) N y e last w1 (dx.gr g) (by omega) hlast' (fun w2 g2 => H48 w2 (g.trans g2)) A46 hI
        rw [copyN_t _ (by omega)] at this
        exact this
    · rw [Nat.min_eq_right (by omega)] at A46
      have hNR := NR _ A46
      have eF : (if s = true then negN 9218868437227405312 else 9218868437227405312) = W s 9218868437227405312 := by
        cases s
        · rfl
        · have := neg_W false 9218868437227405312 (by omega)
          rw [show W false 9218868437227405312 = 9218868437227405312 from rfl] at this
          rw [if_pos rfl, this]; rfl
      rw [eF] at hNR
      have hnan := fun w => run_float_nan .sub (by simp) 27 (W s 9218868437227405312) (W s 9218868437227405312) w (sub_inf s)
      refine ⟨0, 6, fun w1 g => float22o s ad n cap (2 * q + 1) N 9218868437227405312 e last w1 (dx.gr g) (by omega) hlast' (fun w2 g2 => H48 w2 (g.trans g2)) A46 hI9, fun w1 g => rfloat_i s ad (n + 1) cap (2 * q + 1) (W s 9218868437227405312) e w1 (dx.gr g) htop (fun a m k w2 g2 h => hNR a m k w2 (g.trans g2) h) (fun w => (hnan w).choose) (fun w => (hnan w).choose_spec.1) (fun w => by rw [bne, nan_order _ 0 (hnan w).choose_spec.2]; rfl)⟩
theorem flboth (s : Bool) (ad : Option Addr) (n cap : Nat) (e : Int) (xs : List Nat) (w : World) (r1 : Row w ad n cap xs) (h1 : ∀ x ∈ xs, x < 18446744073709551616) : FlBoth #[.agg #[.bool s, .slice ad n cap, .int .i64 e]] w := by
  by_cases hq : RightD s xs e
  · have dx := dyAt_of r1 h1 hq
    generalize nv 18446744073709551616 xs = x at dx
    rcases Nat.eq_zero_or_pos n with rfl | hn
    · have x0 : x = 0 := by
        obtain ⟨ys, r, d⟩ := dx.lim
        exact (d.zero_iff (by omega)).1 r.len
      subst x0
      refine ⟨0, 0, fun w1 g => float_z s ad cap e w1 (r35t s ad 0 cap e xs w1 (r1.gr g) h1 hq), fun w1 g => rfloat_f s ad 0 cap 0 0 e w1 (dx.gr g) ?_ (fun a m k w2 g2 h => near_z s a m k e w2 h) (fun w => sub_run w _ _ _ (sub_self false 0 (by omega)))⟩
      rcases dx.right with ⟨_, _, h⟩ | ⟨q, h, _⟩
      · rw [h, bl_zero]; omega
      · omega
    · obtain ⟨n, rfl⟩ : ∃ n', n = n' + 1 := ⟨n - 1, by omega⟩
      rcases dx.odd with h0 | ⟨q, rfl⟩
      · exfalso
        obtain ⟨ys, r, d⟩ := dx.lim
        have := (d.zero_iff (by omega)).2 h0
        rw [r.len] at this
        omega
      · exact flboth_p s ad n cap q e w dx
  · exact ⟨0, 2, fun w1 g => floatA s ad n cap e w1 (r35f s ad n cap e xs w1 (r1.gr g) h1 hq), fun w1 g => rfloatA s ad n cap e w1 (r25f s ad n cap e xs w1 (r1.gr g) h1 hq)⟩
end Go.Proofs.YtnmdnhmfmahjaaaGreatDoor.Fl
