import Derived.Test.YtlooaoijacfcfaaGreatDoorRO
namespace Go.Proofs.YtlooaoijacfcfaaGreatDoor
open Go.RowKit
set_option linter.unusedVariables false

theorem sameDyadS (s : Bool) (ad1 ad2 : Option Addr) (n1 n2 c1 c2 : Nat) (e : Int) (X : Nat) (w : World) (hx : Lim w ad1 n1 c1 18446744073709551616 X) (hy : Lim w ad2 n2 c2 18446744073709551616 X) :
    Calls Tryz.prog 31 #[.agg #[.bool s, .slice ad1 n1 c1, .int .i64 e], .agg #[.bool s, .slice ad2 n2 c2, .int .i64 e]] w fun r w' => r = .returned (.bool true) ∧ Gr w w' := by
  obtain ⟨xs, rx, gx⟩ := hx
  obtain ⟨ys, ry, gy⟩ := hy
  obtain rfl := gx.unique (by omega) gy
  obtain rfl : n1 = n2 := rx.len.symm.trans ry.len
  have H39 : Hid (∀ w1, Gr w w1 → Calls Tryz.prog 62 #[.slice ad1 n1 c1, .slice ad2 n1 c2] w1 fun r w' => r = .returned (.bool true) ∧ Gr w1 w') := fun w1 g => sameLimbs39 ad1 ad2 n1 c1 c2 xs w1 (rx.gr g) (ry.gr g)
  clear rx ry gx gy
  have TB : Hid _ := two_blocks w (.bool s) (.slice ad1 n1 c1) (.int .i64 e) (.bool s) (.slice ad2 n1 c2) (.int .i64 e) _ rfl
  go_enter Tryz.func31, Tryz.ntmps31
  go_wp2_with (go_at_call 62; (with_reducible refine (H39.out _ (gr2 _ _)).mono ?_); rintro r w1 ⟨rfl, g1⟩; have k := keep6 g1 TB.out; have k2 := k.1.2.2.1; have k5 := k.1.2.2.2.2.2)
  go_ret
  exact ⟨rfl, k.2⟩
set_option maxHeartbeats 1600000 in
/-- is, of two answers that are the same -/
theorem isS (s : Bool) (ad1 ad2 : Option Addr) (n1 n2 c1 c2 : Nat) (e g : Int) (X : Nat) (w : World) (hx : Lim w ad1 n1 c1 18446744073709551616 X) (hy : Lim w ad2 n2 c2 18446744073709551616 X) :
    Calls Tryz.prog 10 #[.agg #[.bool s, .slice ad1 n1 c1, .int .i64 e], .int .i64 g, .agg #[.bool s, .slice ad2 n2 c2, .int .i64 e], .int .i64 g] w fun r w' => r = .returned (.bool true) ∧ Gr w w' := by
  have H18 : Hid (∀ w1, Gr w w1 → Calls Tryz.prog 31 #[.agg #[.bool s, .slice ad1 n1 c1, .int .i64 e], .agg #[.bool s, .slice ad2 n2 c2, .int .i64 e]] w1 fun r w' => r = .returned (.bool true) ∧ Gr w1 w') := fun w1 g => sameDyadS s ad1 ad2 n1 n2 c1 c2 e X w1 (hx.gr g) (hy.gr g)
  clear hx hy
  go_enter Tryz.func10, Tryz.ntmps10
  go_wp2_with (first | (go_at_call 31; (with_reducible refine (H18.out _ (gr2 _ _)).mono ?_); rintro r w1 ⟨rfl, g1⟩))
  go_ret
  exact ⟨rfl, (gr2 _ _).trans g1⟩
def greatB (n : Nat) (e : Int) : Bool := decide (64 < n ∨ (20000 < e ∧ e < 524288) ∨ (e < -20000 ∧ -524288 < e))
set_option maxHeartbeats 1600000 in
theorem great4 (s : Bool) (ad : Option Addr) (n cap : Nat) (e : Int) (w : World) :
    Calls Tryz.prog 4 #[.agg #[.bool s, .slice ad n cap, .int .i64 e]] w fun r w' => r = .returned (.bool (greatB n e)) ∧ Gr w w' := by
  by_cases h1 : 64 < n
  · rw [show greatB n e = true by simp [greatB]; omega]
    have i1 : (64 : Int) < n := by omega
    go_enter Tryz.func4, Tryz.ntmps4
    go_wp2
    go_ret
    exact ⟨rfl, (Gr.refl w).alloc _⟩
  · have i1 : ¬ (64 : Int) < n := by omega
    by_cases h2 : 20000 < e
    · have h4 : ¬ e < -20000 := by omega
      by_cases h3 : e < 524288
      · rw [show greatB n e = true by simp [greatB]; omega]
        go_enter Tryz.func4, Tryz.ntmps4
        go_wp2
        go_ret
        exact ⟨rfl, (Gr.refl w).alloc _⟩
      · rw [show greatB n e = false by simp [greatB]; omega]
        go_enter Tryz.func4, Tryz.ntmps4
        go_wp2
        go_ret
        exact ⟨rfl, (Gr.refl w).alloc _⟩
    · by_cases h4 : e < -20000
      · by_cases h3 : -524288 < e
        · rw [show greatB n e = true by simp [greatB]; omega]
          go_enter Tryz.func4, Tryz.ntmps4
          go_wp2
          go_ret
          exact ⟨rfl, (Gr.refl w).alloc _⟩
        · rw [show greatB n e = false by simp [greatB]; omega]
          go_enter Tryz.func4, Tryz.ntmps4
          go_wp2
          go_ret
          exact ⟨rfl, (Gr.refl w).alloc _⟩
      · rw [show greatB n e = false by simp [greatB]; omega]
        go_enter Tryz.func4, Tryz.ntmps4
        go_wp2
        go_ret
        exact ⟨rfl, (Gr.refl w).alloc _⟩
set_option maxHeartbeats 1600000 in
theorem cmp17A1 (s t : Bool) (ad1 ad2 : Option Addr) (n1 n2 c1 c2 : Nat) (e f : Int) (w : World)
    (R1 : Hid (∀ w1, Gr w w1 → Calls Tryz.prog 35 #[.agg #[.bool s, .slice ad1 n1 c1, .int .i64 e]] w1 fun r w' => r = .returned (.bool false) ∧ Gr w1 w')) :
    Calls Tryz.prog 17 #[.agg #[.bool s, .slice ad1 n1 c1, .int .i64 e], .agg #[.bool t, .slice ad2 n2 c2, .int .i64 f]] w fun r w' => r = .returned (.tuple #[.int .i64 0, .int .i64 2]) ∧ Gr w w' := by
  have TB : Hid _ := two_blocks w (.bool s) (.slice ad1 n1 c1) (.int .i64 e) (.bool t) (.slice ad2 n2 c2) (.int .i64 f) _ rfl
  go_enter Tryz.func17, Tryz.ntmps17
  go_wp2_with (go_at_call 35; (with_reducible refine (R1.out _ (gr2 _ _)).mono ?_); rintro r w1 ⟨rfl, g1⟩; have k1 := keep6 g1 TB.out)
  refine bodyPost_ret (v := .tuple #[.int .i64 0, .int .i64 2]) (by simp [results, Tryz.results17, go_sem]) rfl ⟨rfl, k1.2⟩
set_option maxHeartbeats 1600000 in
theorem cmp17A2 (s t : Bool) (ad1 ad2 : Option Addr) (n1 n2 c1 c2 : Nat) (e f : Int) (w : World)
    (R1 : Hid (∀ w1, Gr w w1 → Calls Tryz.prog 35 #[.agg #[.bool s, .slice ad1 n1 c1, .int .i64 e]] w1 fun r w' => r = .returned (.bool true) ∧ Gr w1 w'))
    (R2 : Hid (∀ w1, Gr w w1 → Calls Tryz.prog 35 #[.agg #[.bool t, .slice ad2 n2 c2, .int .i64 f]] w1 fun r w' => r = .returned (.bool false) ∧ Gr w1 w')) :
    Calls Tryz.prog 17 #[.agg #[.bool s, .slice ad1 n1 c1, .int .i64 e], .agg #[.bool t, .slice ad2 n2 c2, .int .i64 f]] w fun r w' => r = .returned (.tuple #[.int .i64 0, .int .i64 2]) ∧ Gr w w' := by
  have TB : Hid _ := two_blocks w (.bool s) (.slice ad1 n1 c1) (.int .i64 e) (.bool t) (.slice ad2 n2 c2) (.int .i64 f) _ rfl
  have tok : True := trivial
  go_enter Tryz.func17, Tryz.ntmps17
  go_wp2_with (first | (go_at_call 35; have _t := tok; (with_reducible refine (R1.out _ (gr2 _ _)).mono ?_); rintro r w1 ⟨rfl, g1⟩; clear tok; have k1 := keep6 g1 TB.out; have k13 := k1.1.2.2.2.1; have k14 := k1.1.2.2.2.2.1; have k15 := k1.1.2.2.2.2.2) | (go_at_call 35; (with_reducible refine (R2.out _ k1.2).mono ?_); rintro r w2 ⟨rfl, g2⟩; have k2 := keep6 g2 k1; clear k13 k14 k15))
  refine bodyPost_ret (v := .tuple #[.int .i64 0, .int .i64 2]) (by simp [results, Tryz.results17, go_sem]) rfl ⟨rfl, k2.2⟩
set_option maxHeartbeats 1600000 in
theorem cmp18A1 (s t : Bool) (ad1 ad2 : Option Addr) (n1 n2 c1 c2 : Nat) (e f : Int) (w : World)
    (R1 : Hid (∀ w1, Gr w w1 → Calls Tryz.prog 25 #[.agg #[.bool s, .slice ad1 n1 c1, .int .i64 e]] w1 fun r w' => r = .returned (.bool false) ∧ Gr w1 w')) :
    Calls Tryz.prog 18 #[.agg #[.bool s, .slice ad1 n1 c1, .int .i64 e], .agg #[.bool t, .slice ad2 n2 c2, .int .i64 f]] w fun r w' => r = .returned (.tuple #[.int .i64 0, .int .i64 2]) ∧ Gr w w' := by
  have TB : Hid _ := two_blocks w (.bool s) (.slice ad1 n1 c1) (.int .i64 e) (.bool t) (.slice ad2 n2 c2) (.int .i64 f) _ rfl
  go_enter Tryz.func18, Tryz.ntmps18
  go_wp2_with (go_at_call 25; (with_reducible refine (R1.out _ (gr2 _ _)).mono ?_); rintro r w1 ⟨rfl, g1⟩; have k1 := keep6 g1 TB.out)
  refine bodyPost_ret (v := .tuple #[.int .i64 0, .int .i64 2]) (by simp [results, Tryz.results18, go_sem]) rfl ⟨rfl, k1.2⟩
set_option maxHeartbeats 1600000 in
theorem cmp18A2 (s t : Bool) (ad1 ad2 : Option Addr) (n1 n2 c1 c2 : Nat) (e f : Int) (w : World)
    (R1 : Hid (∀ w1, Gr w w1 → Calls Tryz.prog 25 #[.agg #[.bool s, .slice ad1 n1 c1, .int .i64 e]] w1 fun r w' => r = .returned (.bool true) ∧ Gr w1 w'))
    (R2 : Hid (∀ w1, Gr w w1 → Calls Tryz.prog 25 #[.agg #[.bool t, .slice ad2 n2 c2, .int .i64 f]] w1 fun r w' => r = .returned (.bool false) ∧ Gr w1 w')) :
    Calls Tryz.prog 18 #[.agg #[.bool s, .slice ad1 n1 c1, .int .i64 e], .agg #[.bool t, .slice ad2 n2 c2, .int .i64 f]] w fun r w' => r = .returned (.tuple #[.int .i64 0, .int .i64 2]) ∧ Gr w w' := by
  have TB : Hid _ := two_blocks w (.bool s) (.slice ad1 n1 c1) (.int .i64 e) (.bool t) (.slice ad2 n2 c2) (.int .i64 f) _ rfl
  have tok : True := trivial
  go_enter Tryz.func18, Tryz.ntmps18
  go_wp2_with (first | (go_at_call 25; have _t := tok; (with_reducible refine (R1.out _ (gr2 _ _)).mono ?_); rintro r w1 ⟨rfl, g1⟩; clear tok; have k1 := keep6 g1 TB.out; have k13 := k1.1.2.2.2.1; have k14 := k1.1.2.2.2.2.1; have k15 := k1.1.2.2.2.2.2) | (go_at_call 25; (with_reducible refine (R2.out _ k1.2).mono ?_); rintro r w2 ⟨rfl, g2⟩; have k2 := keep6 g2 k1; clear k13 k14 k15))
  refine bodyPost_ret (v := .tuple #[.int .i64 0, .int .i64 2]) (by simp [results, Tryz.results18, go_sem]) rfl ⟨rfl, k2.2⟩
set_option maxRecDepth 10000 in
set_option maxHeartbeats 3200000 in
theorem cmp18 (s t : Bool) (ad1 ad2 : Option Addr) (n1 n2 c1 c2 : Nat) (e f : Int) (x y : Nat) (w : World) (dx : DyAt w s ad1 n1 c1 e x) (dy : DyAt w t ad2 n2 c2 f y) :
    Calls Tryz.prog 18 #[.agg #[.bool s, .slice ad1 n1 c1, .int .i64 e], .agg #[.bool t, .slice ad2 n2 c2, .int .i64 f]] w fun r w' => r = .returned (.tuple #[.int .i64 (sg (sv KK s x e - sv KK t y f)), .int .i64 0]) ∧ Gr w w' := by
  have hkk := KK_eq
  have R1 := dx.r25
  have R2 := dy.r25
  have bx := dx.bl
  have by' := dy.bl
  have e1 := dx.low
  have e2 := dx.high
  have f1 := dy.low
  have f2 := dy.high
  have D1 : Hid (∀ w1, Gr w w1 → Calls Tryz.prog 28 #[.agg #[.bool s, .slice ad1 n1 c1, .int .i64 e]] w1 fun r w' => ∃ ad' n' cap', r = .returned (.agg #[.bool s, .slice ad' n' cap', .int .i64 e]) ∧ Lim w' ad' n' cap' 18446744073709551616 x ∧ Gr w1 w') := fun w1 g => dyad28 s ad1 n1 c1 x e w1 (dx.lim.gr g) (by omega)
  have D2 : Hid (∀ w1, Gr w w1 → Calls Tryz.prog 28 #[.agg #[.bool t, .slice ad2 n2 c2, .int .i64 f]] w1 fun r w' => ∃ ad' n' cap', r = .returned (.agg #[.bool t, .slice ad' n' cap', .int .i64 f]) ∧ Lim w' ad' n' cap' 18446744073709551616 y ∧ Gr w1 w') := fun w1 g => dyad28 t ad2 n2 c2 y f w1 (dy.lim.gr g) (by omega)
  have CM : Hid (∀ ad1 n1 c1 ad2 n2 c2 w1, Lim w1 ad1 n1 c1 18446744073709551616 x → Lim w1 ad2 n2 c2 18446744073709551616 y → Calls Tryz.prog 41 #[.agg #[.bool s, .slice ad1 n1 c1, .int .i64 e], .agg #[.bool t, .slice ad2 n2 c2, .int .i64 f]] w1 fun r w' => r = .returned (.int .i64 (sg (sv KK s x e - sv KK t y f))) ∧ Gr w1 w') := fun ad1 n1 c1 ad2 n2 c2 w1 h1 h2 => compare45 s t ad1 ad2 n1 n2 c1 c2 x y e f w1 h1 h2 (by omega) (by omega) (by omega) (by omega) (by omega) (by omega) KK (by omega) (by omega)
  clear dx dy bx by' e1 e2 f1 f2
  generalize sg (sv KK s x e - sv KK t y f) = OUT at *
  have TB : Hid _ := two_blocks w (.bool s) (.slice ad1 n1 c1) (.int .i64 e) (.bool t) (.slice ad2 n2 c2) (.int .i64 f) _ rfl
  have tok : True := trivial
  go_enter Tryz.func18, Tryz.ntmps18
  go_wp2_with (first | (go_at_call 25; have _t := tok; (with_reducible refine (R1.out _ (gr2 _ _)).mono ?_); rintro r w1 ⟨rfl, g1⟩; clear tok; have k1 := keep6 g1 TB.out; have k13 := k1.1.2.2.2.1; have k14 := k1.1.2.2.2.2.1; have k15 := k1.1.2.2.2.2.2) | (go_at_call 25; (with_reducible refine (R2.out _ k1.2).mono ?_); rintro r w2 ⟨rfl, g2⟩; have k2 := keep6 g2 k1; clear k13 k14 k15))
  have hS0 := keep6 ((Gr.refl w2).drew) k2
  clear k1 k2 g1 g2 TB
  go_region_held3 (fun w' => (w'.cell? ⟨w.heap.size, 0, none⟩ = some (.bool s) ∧ w'.cell? ⟨w.heap.size, 1, none⟩ = some (.slice ad1 n1 c1) ∧ w'.cell? ⟨w.heap.size, 2, none⟩ = some (.int .i64 e) ∧ w'.cell? ⟨w.heap.size + 1, 0, none⟩ = some (.bool t) ∧ w'.cell? ⟨w.heap.size + 1, 1, none⟩ = some (.slice ad2 n2 c2) ∧ w'.cell? ⟨w.heap.size + 1, 2, none⟩ = some (.int .i64 f)) ∧ Gr w w') (first | (with_reducible assumption) | (apply keep6; (with_reducible assumption); (with_reducible assumption))) (first | (go_at_call 28; (with_reducible refine (D1.out _ ?gg).mono ?_); (case gg => exact And.right ‹_ ∧ Gr w _›); rintro r w3 ⟨a3, m3, k3, rfl, hl3, g3⟩) | (go_at_call 28; (with_reducible refine (D2.out _ ?gg).mono ?_); (case gg => exact And.right ‹_ ∧ Gr w _›); rintro r w4 ⟨a4, m4, k4, rfl, hl4, g4⟩) | (go_at_call 41; (with_reducible refine (CM.out a3 m3 k3 a4 m4 k4 _ (hl3.gr g4) hl4).mono ?_); rintro r w5 ⟨rfl, g5⟩))
  have hS1 := keep6 g5 (keep6 g4 (keep6 g3 hS0))
  go_wp2
  refine bodyPost_ret (v := .tuple #[.int .i64 OUT, .int .i64 0]) (by simp [results, Tryz.results18, go_sem]) rfl ⟨rfl, hS1.2⟩
end Go.Proofs.YtlooaoijacfcfaaGreatDoor
