import Derived.Test.YtbkkpbffdnhidaaGreatDoorM28
namespace Go.Proofs.YtbkkpbffdnhidaaGreatDoor
open Go.RowKit
set_option linter.unusedVariables false

theorem addS (s t : Bool) (ad1 ad2 : Option Addr) (n1 n2 c1 c2 : Nat) (e f : Int) (x y : Nat) (w : World) (dx : DyAt w s ad1 n1 c1 e x) (dy : DyAt w t ad2 n2 c2 f y) (hT : TabAt 1 Lib.deBruijn64tab w) :
    Calls Tryz.prog 9 #[.agg #[.bool s, .slice ad1 n1 c1, .int .i64 e], .agg #[.bool t, .slice ad2 n2 c2, .int .i64 f]] w fun r w' => SetV w' r (sv KK s x e + sv KK t y f) ∧ Gr w w' := by
  have hkk := KK_eq
  have e1 := dx.low
  have f1 := dy.low
  by_cases hfar : 0 < x ∧ 0 < y ∧ 262144 < max e f - min e f
  · obtain ⟨x0, y0, hef⟩ := hfar
    obtain ⟨k1, rfl⟩ := lim_pos dx.lim x0
    obtain ⟨k2, rfl⟩ := lim_pos dy.lim y0
    refine (toldE9 s t ad1 ad2 (k1 + 1) (k2 + 1) c1 c2 e f w dx.r26 dy.r26 (fun w1 g => sum_far s t ad1 ad2 k1 k2 c1 c2 e f w1 dx.low dx.high dy.low dy.high hef)).mono ?_
    rintro r w' ⟨rfl, g⟩
    exact ⟨far_setv w' s t x y e f dx.odd dy.odd x0 y0 dx.lt dy.lt (by omega) (by omega) hef, g⟩
  · obtain ⟨neg, m, g, hs, g1, g2, C⟩ := sum29u s t ad1 ad2 n1 n2 c1 c2 x y e f w dx.lim dy.lim dx.le dy.le dx.low dx.high dy.low dy.high (fun x0 y0 hef => hfar ⟨x0, y0, hef⟩)
    obtain ⟨h0, hw⟩ := hs KK (by omega) (by omega)
    refine (told9 s t neg ad1 ad2 n1 n2 c1 c2 m e f g w hT (by omega) (by omega) dx.r26 dy.r26 C).mono ?_
    rintro r w' ⟨h1, h2⟩
    exact ⟨⟨neg, m, g, h0, hw, h1⟩, h2⟩
theorem subS (s t : Bool) (ad1 ad2 : Option Addr) (n1 n2 c1 c2 : Nat) (e f : Int) (x y : Nat) (w : World) (dx : DyAt w s ad1 n1 c1 e x) (dy : DyAt w t ad2 n2 c2 f y) (hT : TabAt 1 Lib.deBruijn64tab w) :
    Calls Tryz.prog 10 #[.agg #[.bool s, .slice ad1 n1 c1, .int .i64 e], .agg #[.bool t, .slice ad2 n2 c2, .int .i64 f]] w fun r w' => SetV w' r (sv KK s x e - sv KK t y f) ∧ Gr w w' := by
  have hkk := KK_eq
  have e1 := dx.low
  have f1 := dy.low
  have hV : sv KK s x e - sv KK t y f = sv KK s x e + sv KK (!t) y f := by rw [sv_neg, ← Int.sub_eq_add_neg]
  rw [hV]
  by_cases hfar : 0 < x ∧ 0 < y ∧ 262144 < max e f - min e f
  · obtain ⟨x0, y0, hef⟩ := hfar
    obtain ⟨k1, rfl⟩ := lim_pos dx.lim x0
    obtain ⟨k2, rfl⟩ := lim_pos dy.lim y0
    refine (toldE11 s t ad1 ad2 (k1 + 1) (k2 + 1) c1 c2 e f w dx.r26 dy.r26 (fun w1 g => sum_far s (!t) ad1 ad2 k1 k2 c1 c2 e f w1 dx.low dx.high dy.low dy.high hef)).mono ?_
    rintro r w' ⟨rfl, g⟩
    exact ⟨far_setv w' s (!t) x y e f dx.odd dy.odd x0 y0 dx.lt dy.lt (by omega) (by omega) hef, g⟩
  · obtain ⟨neg, m, g, hs, g1, g2, C⟩ := sum29u s (!t) ad1 ad2 n1 n2 c1 c2 x y e f w dx.lim dy.lim dx.le dy.le dx.low dx.high dy.low dy.high (fun x0 y0 hef => hfar ⟨x0, y0, hef⟩)
    obtain ⟨h0, hw⟩ := hs KK (by omega) (by omega)
    refine (told11 s t neg ad1 ad2 n1 n2 c1 c2 m e f g w hT (by omega) (by omega) dx.r26 dy.r26 C).mono ?_
    rintro r w' ⟨h1, h2⟩
    exact ⟨⟨neg, m, g, h0, hw, h1⟩, h2⟩
theorem mulS (s t : Bool) (ad1 ad2 : Option Addr) (n1 n2 c1 c2 : Nat) (e f : Int) (x y : Nat) (w : World) (dx : DyAt w s ad1 n1 c1 e x) (dy : DyAt w t ad2 n2 c2 f y) (hT : TabAt 1 Lib.deBruijn64tab w) :
    Calls Tryz.prog 11 #[.agg #[.bool s, .slice ad1 n1 c1, .int .i64 e], .agg #[.bool t, .slice ad2 n2 c2, .int .i64 f]] w fun r w' => SetV w' r (sv KK (s != t) (x * y) (e + f)) ∧ Gr w w' := by
  have hkk := KK_eq
  have e1 := dx.low
  have f1 := dy.low
  by_cases hn : n1 + n2 ≤ 4097
  · refine (told12 s t ad1 ad2 n1 n2 c1 c2 x y e f w hT dx.r26 dy.r26 dx.lim dy.lim hn dx.low dx.high dy.low dy.high).mono ?_
    rintro r w' ⟨h1, h2⟩
    exact ⟨⟨_, _, _, by omega, rfl, h1⟩, h2⟩
  · have m1 := dx.le
    have m2 := dy.le
    refine (mulE s t ad1 ad2 n1 n2 c1 c2 e f w dx.r26 dy.r26 m1 m2 (by omega)).mono ?_
    rintro r w' ⟨rfl, g⟩
    refine ⟨⟨_, _, _, by omega, rfl, ?_⟩, g⟩
    have pos : ∀ (m : Nat) (z : Nat) (ad : Option Addr) (cap : Nat), 0 < m → Lim w ad m cap 18446744073709551616 z → 18446744073709551616 ^ (m - 1) ≤ z := fun m z ad cap hm ⟨xs, r, d⟩ => d.lower (k := m - 1) (by rw [r.len]; omega)
    have p1 := pos n1 x ad1 c1 (by omega) dx.lim
    have p2 := pos n2 y ad2 c2 (by omega) dy.lim
    have q1 := Nat.pow_pos (n := n1 - 1) (show 0 < 18446744073709551616 by omega)
    have q2 := Nat.pow_pos (n := n2 - 1) (show 0 < 18446744073709551616 by omega)
    obtain ⟨p, hp⟩ : ∃ p, x = 2 * p + 1 := by rcases dx.odd with h | h; omega; exact h
    obtain ⟨q, hq⟩ : ∃ q, y = 2 * q + 1 := by rcases dy.odd with h | h; omega; exact h
    have hxy : x * y = 2 * (2 * p * q + p + q) + 1 := by
      rw [hp, hq, Nat.mul_add, Nat.mul_one, Nat.add_mul, Nat.one_mul, Nat.mul_comm 2 q, ← Nat.mul_assoc, Nat.mul_assoc (2 * p) q 2, Nat.mul_comm q 2, ← Nat.mul_assoc, Nat.mul_comm (2 * p) 2, Nat.mul_assoc 2 (2 * p) q]
      omega
    unfold Settled
    refine Or.inr (Or.inr ⟨0, 2 * p * q + p + q, by rw [Nat.pow_zero, Nat.one_mul]; exact hxy, ?_, rfl⟩)
    intro hF
    have h1 := hF.1
    rw [← hxy] at h1
    have h2 : 18446744073709551616 ^ (n1 - 1) * 18446744073709551616 ^ (n2 - 1) ≤ x * y := Nat.mul_le_mul p1 p2
    rw [← Nat.pow_add] at h2
    have h3 : 18446744073709551616 ^ L4096 ≤ 18446744073709551616 ^ (n1 - 1 + (n2 - 1)) := Nat.pow_le_pow_right (by omega) (by rw [L4096_eq]; omega)
    omega
theorem negS (s : Bool) (ad : Option Addr) (n cap x : Nat) (e : Int) (w : World) (dx : DyAt w s ad n cap e x) (hT : TabAt 1 Lib.deBruijn64tab w) :
    Calls Tryz.prog 12 #[.agg #[.bool s, .slice ad n cap, .int .i64 e]] w fun r w' => SetV w' r (sv KK (!s) x e) ∧ Gr w w' := by
  have hkk := KK_eq
  obtain ⟨xs, h1, h2, h3⟩ := dx.rightD
  have := dx.le
  have := dx.low
  have := dx.high
  refine (neg14 s ad n cap x e xs w h1 h2.2.1 h2.1 (by omega) hT (by omega) (by omega) h3).mono ?_
  rintro r w' ⟨h4, h5⟩
  exact ⟨⟨_, _, _, by omega, rfl, h4⟩, h5⟩
set_option maxRecDepth 10000 in
set_option maxHeartbeats 1600000 in
theorem neg13A (s : Bool) (ad : Option Addr) (n cap : Nat) (e : Int) (w : World) (R : Hid (∀ w1, Gr w w1 → Calls Tryz.prog 44 #[.agg #[.bool s, .slice ad n cap, .int .i64 e]] w1 fun r w' => r = .returned (.bool false) ∧ Gr w1 w')) :
    Calls Tryz.prog 12 #[.agg #[.bool s, .slice ad n cap, .int .i64 e]] w fun r w' => r = .returned (.tuple #[zeroD, .int .i64 2]) ∧ Gr w w' := by
  have TB : Hid _ := two_blocks w (.bool s) (.slice ad n cap) (.int .i64 e) (.bool false) (.slice none 0 0) (.int .i64 0) _ rfl
  have kb0 : Hid _ := second_block w (.cells #[.bool s, .slice ad n cap, .int .i64 e] 24) (.cells #[.bool false, .slice none 0 0, .int .i64 0] 24)
  go_enter Tryz.func12, Tryz.ntmps12
  go_wp2_with (first | (go_at_call 44; (with_reducible refine (R.out _ (gr2 _ _)).mono ?_); rintro r w1 ⟨rfl, g1⟩; have k := keep6 g1 TB.out; have k0 := k.1.1; have k1 := k.1.2.1; have k2 := k.1.2.2.1; have kb := g1.keepH kb0.out; obtain ⟨t0, t1, t2, u0, u1, u2⟩ := Out3.of kb))
  refine bodyPost_ret (v := .tuple #[zeroD, .int .i64 2]) ?_ rfl ⟨rfl, (((k.2).setCell (p := ⟨w.heap.size + 1, 0, none⟩) (Nat.le_succ _) _).setCell (p := ⟨w.heap.size + 1, 1, none⟩) (Nat.le_succ _) _).setCell (p := ⟨w.heap.size + 1, 2, none⟩) (Nat.le_succ _) _⟩
  simp [results, Tryz.results12, go_sem, t0, t1, t2, zeroD]
set_option maxRecDepth 10000 in
set_option maxHeartbeats 1600000 in
theorem rneg14A (s : Bool) (ad : Option Addr) (n cap : Nat) (e : Int) (w : World) (R : Hid (∀ w1, Gr w w1 → Calls Tryz.prog 61 #[.agg #[.bool s, .slice ad n cap, .int .i64 e]] w1 fun r w' => r = .returned (.bool false) ∧ Gr w1 w')) :
    Calls Tryz.prog 22 #[.agg #[.bool s, .slice ad n cap, .int .i64 e]] w fun r w' => r = .returned (.tuple #[zeroD, .int .i64 2]) ∧ Gr w w' := by
  have TB : Hid _ := two_blocks w (.bool s) (.slice ad n cap) (.int .i64 e) (.bool false) (.slice none 0 0) (.int .i64 0) _ rfl
  have kb0 : Hid _ := second_block w (.cells #[.bool s, .slice ad n cap, .int .i64 e] 24) (.cells #[.bool false, .slice none 0 0, .int .i64 0] 24)
  go_enter Tryz.func22, Tryz.ntmps22
  go_wp2_with (first | (go_at_call 61; (with_reducible refine (R.out _ (gr2 _ _)).mono ?_); rintro r w1 ⟨rfl, g1⟩; have k := keep6 g1 TB.out; have k0 := k.1.1; have k1 := k.1.2.1; have k2 := k.1.2.2.1; have kb := g1.keepH kb0.out; obtain ⟨t0, t1, t2, u0, u1, u2⟩ := Out3.of kb))
  refine bodyPost_ret (v := .tuple #[zeroD, .int .i64 2]) ?_ rfl ⟨rfl, (((k.2).setCell (p := ⟨w.heap.size + 1, 0, none⟩) (Nat.le_succ _) _).setCell (p := ⟨w.heap.size + 1, 1, none⟩) (Nat.le_succ _) _).setCell (p := ⟨w.heap.size + 1, 2, none⟩) (Nat.le_succ _) _⟩
  simp [results, Tryz.results22, go_sem, t0, t1, t2, zeroD]
set_option maxRecDepth 10000 in
set_option maxHeartbeats 1600000 in
theorem scale15A (s : Bool) (ad : Option Addr) (n cap : Nat) (e : Int) (p : Int) (w : World) (R : Hid (∀ w1, Gr w w1 → Calls Tryz.prog 44 #[.agg #[.bool s, .slice ad n cap, .int .i64 e]] w1 fun r w' => r = .returned (.bool false) ∧ Gr w1 w')) :
    Calls Tryz.prog 13 #[.agg #[.bool s, .slice ad n cap, .int .i64 e], .int .i64 p] w fun r w' => r = .returned (.tuple #[zeroD, .int .i64 2]) ∧ Gr w w' := by
  have TB : Hid _ := two_blocks w (.bool s) (.slice ad n cap) (.int .i64 e) (.bool false) (.slice none 0 0) (.int .i64 0) _ rfl
  have kb0 : Hid _ := second_block w (.cells #[.bool s, .slice ad n cap, .int .i64 e] 24) (.cells #[.bool false, .slice none 0 0, .int .i64 0] 24)
  go_enter Tryz.func13, Tryz.ntmps13
  go_wp2_with (first | (go_at_call 44; (with_reducible refine (R.out _ (gr2 _ _)).mono ?_); rintro r w1 ⟨rfl, g1⟩; have k := keep6 g1 TB.out; have k0 := k.1.1; have k1 := k.1.2.1; have k2 := k.1.2.2.1; have kb := g1.keepH kb0.out; obtain ⟨t0, t1, t2, u0, u1, u2⟩ := Out3.of kb))
  refine bodyPost_ret (v := .tuple #[zeroD, .int .i64 2]) ?_ rfl ⟨rfl, (((k.2).setCell (p := ⟨w.heap.size + 1, 0, none⟩) (Nat.le_succ _) _).setCell (p := ⟨w.heap.size + 1, 1, none⟩) (Nat.le_succ _) _).setCell (p := ⟨w.heap.size + 1, 2, none⟩) (Nat.le_succ _) _⟩
  simp [results, Tryz.results13, go_sem, t0, t1, t2, zeroD]
set_option maxRecDepth 10000 in
set_option maxHeartbeats 1600000 in
theorem scale15z (s : Bool) (ad : Option Addr) (n cap : Nat) (e : Int) (p : Int) (w : World) (R : Hid (∀ w1, Gr w w1 → Calls Tryz.prog 44 #[.agg #[.bool s, .slice ad 0 cap, .int .i64 e]] w1 fun r w' => r = .returned (.bool true) ∧ Gr w1 w')) :
    Calls Tryz.prog 13 #[.agg #[.bool s, .slice ad 0 cap, .int .i64 e], .int .i64 p] w fun r w' => r = .returned (.tuple #[zeroD, .int .i64 0]) ∧ Gr w w' := by
  have TB : Hid _ := two_blocks w (.bool s) (.slice ad 0 cap) (.int .i64 e) (.bool false) (.slice none 0 0) (.int .i64 0) _ rfl
  have kb0 : Hid _ := second_block w (.cells #[.bool s, .slice ad 0 cap, .int .i64 e] 24) (.cells #[.bool false, .slice none 0 0, .int .i64 0] 24)
  go_enter Tryz.func13, Tryz.ntmps13
  go_wp2_with (first | (go_at_call 44; (with_reducible refine (R.out _ (gr2 _ _)).mono ?_); rintro r w1 ⟨rfl, g1⟩; have k := keep6 g1 TB.out; have k0 := k.1.1; have k1 := k.1.2.1; have k2 := k.1.2.2.1; have kb := g1.keepH kb0.out; obtain ⟨t0, t1, t2, u0, u1, u2⟩ := Out3.of kb))
  refine bodyPost_ret (v := .tuple #[zeroD, .int .i64 0]) ?_ rfl ⟨rfl, (((k.2).setCell (p := ⟨w.heap.size + 1, 0, none⟩) (Nat.le_succ _) _).setCell (p := ⟨w.heap.size + 1, 1, none⟩) (Nat.le_succ _) _).setCell (p := ⟨w.heap.size + 1, 2, none⟩) (Nat.le_succ _) _⟩
  simp [results, Tryz.results13, go_sem, t0, t1, t2, zeroD]
set_option maxRecDepth 10000 in
set_option maxHeartbeats 1600000 in
theorem scale15lo (s : Bool) (ad : Option Addr) (n cap : Nat) (e : Int) (p : Int) (hp : p < -2097152) (w : World) (R : Hid (∀ w1, Gr w w1 → Calls Tryz.prog 44 #[.agg #[.bool s, .slice ad (n + 1) cap, .int .i64 e]] w1 fun r w' => r = .returned (.bool true) ∧ Gr w1 w')) :
    Calls Tryz.prog 13 #[.agg #[.bool s, .slice ad (n + 1) cap, .int .i64 e], .int .i64 p] w fun r w' => r = .returned (.tuple #[zeroD, .int .i64 3]) ∧ Gr w w' := by
  have TB : Hid _ := two_blocks w (.bool s) (.slice ad (n + 1) cap) (.int .i64 e) (.bool false) (.slice none 0 0) (.int .i64 0) _ rfl
  have kb0 : Hid _ := second_block w (.cells #[.bool s, .slice ad (n + 1) cap, .int .i64 e] 24) (.cells #[.bool false, .slice none 0 0, .int .i64 0] 24)
  have z1 : ((n : Int) + 1 == 0) = false := by simp; omega
  go_enter Tryz.func13, Tryz.ntmps13
  go_wp2_with (first | (go_at_call 44; (with_reducible refine (R.out _ (gr2 _ _)).mono ?_); rintro r w1 ⟨rfl, g1⟩; have k := keep6 g1 TB.out; have k0 := k.1.1; have k1 := k.1.2.1; have k2 := k.1.2.2.1; have kb := g1.keepH kb0.out; obtain ⟨t0, t1, t2, u0, u1, u2⟩ := Out3.of kb))
  refine bodyPost_ret (v := .tuple #[zeroD, .int .i64 3]) ?_ rfl ⟨rfl, (((k.2).setCell (p := ⟨w.heap.size + 1, 0, none⟩) (Nat.le_succ _) _).setCell (p := ⟨w.heap.size + 1, 1, none⟩) (Nat.le_succ _) _).setCell (p := ⟨w.heap.size + 1, 2, none⟩) (Nat.le_succ _) _⟩
  simp [results, Tryz.results13, go_sem, t0, t1, t2, zeroD]
set_option maxRecDepth 10000 in
set_option maxHeartbeats 1600000 in
theorem scale15hi (s : Bool) (ad : Option Addr) (n cap : Nat) (e : Int) (p : Int) (hp : 2097152 < p) (w : World) (R : Hid (∀ w1, Gr w w1 → Calls Tryz.prog 44 #[.agg #[.bool s, .slice ad (n + 1) cap, .int .i64 e]] w1 fun r w' => r = .returned (.bool true) ∧ Gr w1 w')) :
    Calls Tryz.prog 13 #[.agg #[.bool s, .slice ad (n + 1) cap, .int .i64 e], .int .i64 p] w fun r w' => r = .returned (.tuple #[zeroD, .int .i64 3]) ∧ Gr w w' := by
  have TB : Hid _ := two_blocks w (.bool s) (.slice ad (n + 1) cap) (.int .i64 e) (.bool false) (.slice none 0 0) (.int .i64 0) _ rfl
  have kb0 : Hid _ := second_block w (.cells #[.bool s, .slice ad (n + 1) cap, .int .i64 e] 24) (.cells #[.bool false, .slice none 0 0, .int .i64 0] 24)
  have z1 : ((n : Int) + 1 == 0) = false := by simp; omega
  have z2 : ¬ p < -2097152 := by omega
  have z3 : p > 2097152 := by omega
  go_enter Tryz.func13, Tryz.ntmps13
  go_wp2_with (first | (go_at_call 44; (with_reducible refine (R.out _ (gr2 _ _)).mono ?_); rintro r w1 ⟨rfl, g1⟩; have k := keep6 g1 TB.out; have k0 := k.1.1; have k1 := k.1.2.1; have k2 := k.1.2.2.1; have kb := g1.keepH kb0.out; obtain ⟨t0, t1, t2, u0, u1, u2⟩ := Out3.of kb))
  refine bodyPost_ret (v := .tuple #[zeroD, .int .i64 3]) ?_ rfl ⟨rfl, (((k.2).setCell (p := ⟨w.heap.size + 1, 0, none⟩) (Nat.le_succ _) _).setCell (p := ⟨w.heap.size + 1, 1, none⟩) (Nat.le_succ _) _).setCell (p := ⟨w.heap.size + 1, 2, none⟩) (Nat.le_succ _) _⟩
  simp [results, Tryz.results13, go_sem, t0, t1, t2, zeroD]
set_option maxRecDepth 10000 in
set_option maxHeartbeats 1600000 in
theorem scale15mn (s : Bool) (ad : Option Addr) (n cap x : Nat) (e p : Int) (w : World) (dx : DyAt w s ad (n + 1) cap e x) (hT : TabAt 1 Lib.deBruijn64tab w) (p1 : -2097152 ≤ p) (p2 : p ≤ 2097152) :
    Calls Tryz.prog 13 #[.agg #[.bool s, .slice ad (n + 1) cap, .int .i64 e], .int .i64 p] w fun r w' => SettledN w.heap.size w' r s x (e + p) ∧ Gr w w' := by
  have R := dx.r26
  have b1 := dx.le
  have e1 := dx.low
  have e2 := dx.high
  have S35 : Hid (∀ w1, Gr w w1 → Calls Tryz.prog 45 #[.agg #[.bool s, .slice ad (n + 1) cap, .int .i64 (e + p)]] w1 fun r w' => ∃ a b c d f' g', r = .returned (.tuple #[.agg #[.bool a, .slice b c d, .int .i64 f'], .int .i64 g']) ∧ Hid (SettledN w.heap.size w' r s x (e + p)) ∧ Gr w1 w') := fun w1 g => by
    obtain ⟨xs, rx, gx⟩ := dx.lim.gr g
    refine (settle35n s ad (n + 1) cap x (e + p) xs w1 rx gx.2.1 gx.1 (by omega) (tab_gr hT g) (by omega) (by omega)).mono ?_
    rintro r w' ⟨h1, h2⟩
    obtain ⟨a, b, c, d, f, g', hr⟩ := h1.form
    exact ⟨a, b, c, d, f, g', hr, h1.low g.size, h2⟩
  clear dx hT
  have TB : Hid _ := two_blocks w (.bool s) (.slice ad (n + 1) cap) (.int .i64 e) (.bool false) (.slice none 0 0) (.int .i64 0) _ rfl
  have kb0 : Hid _ := second_block w (.cells #[.bool s, .slice ad (n + 1) cap, .int .i64 e] 24) (.cells #[.bool false, .slice none 0 0, .int .i64 0] 24)
  have z1 : ((n : Int) + 1 == 0) = false := by simp; omega
  have z2 : ¬ p < -2097152 := by omega
  have z3 : ¬ p > 2097152 := by omega
  go_enter Tryz.func13, Tryz.ntmps13
  go_wp2_with (first | (go_at_call 44; (with_reducible refine (R.out _ (gr2 _ _)).mono ?_); rintro r w1 ⟨rfl, g1⟩; have k := keep6 g1 TB.out; have k0 := k.1.1; have k1 := k.1.2.1; have k2 := k.1.2.2.1; have kb := g1.keepH kb0.out; obtain ⟨t0, t1, t2, u0, u1, u2⟩ := Out3.of kb) | (go_at_call 45; (with_reducible refine (S35.out _ k.2).mono ?_); rintro r w2 ⟨za, zb, zc, zd, zf, zg, rfl, hS, g2⟩; have kb2 := g2.keepH kb; clear k0 k1 k2 t0 t1 t2 u0 u1 u2; obtain ⟨t0, t1, t2, u0, u1, u2⟩ := Out3.of kb2))
  refine bodyPost_ret (v := .tuple #[.agg #[.bool za, .slice zb zc zd, .int .i64 zf], .int .i64 zg]) ?_ rfl ⟨hS.out.set3 kb2 _ _ _, (((k.2.trans g2).setCell (p := ⟨w.heap.size + 1, 0, none⟩) (Nat.le_succ _) _).setCell (p := ⟨w.heap.size + 1, 1, none⟩) (Nat.le_succ _) _).setCell (p := ⟨w.heap.size + 1, 2, none⟩) (Nat.le_succ _) _⟩
  simp [results, Tryz.results13, go_sem, t0, t1, t2]
theorem scale15m (s : Bool) (ad : Option Addr) (n cap x : Nat) (e p : Int) (w : World) (dx : DyAt w s ad (n + 1) cap e x) (hT : TabAt 1 Lib.deBruijn64tab w) (p1 : -2097152 ≤ p) (p2 : p ≤ 2097152) :
    Calls Tryz.prog 13 #[.agg #[.bool s, .slice ad (n + 1) cap, .int .i64 e], .int .i64 p] w fun r w' => Settled w' r s x (e + p) ∧ Gr w w' :=
  (scale15mn s ad n cap x e p w dx hT p1 p2).mono (by rintro r w' ⟨h1, h2⟩; exact ⟨h1.told, h2⟩)
set_option maxRecDepth 10000 in
set_option maxHeartbeats 1600000 in
theorem rneg14 (s : Bool) (ad : Option Addr) (n cap x : Nat) (e : Int) (w : World) (dx : DyAt w s ad n cap e x) :
    Calls Tryz.prog 22 #[.agg #[.bool s, .slice ad n cap, .int .i64 e]] w fun r w' => SetV w' r (sv KK (!s) x e) ∧ Gr w w' := by
  have hkk := KK_eq
  have R := dx.r25
  have e1 := dx.low
  have e2 := dx.high
  have bx := dx.bl
  have D1 : Hid (∀ w1, Gr w w1 → Calls Tryz.prog 64 #[.agg #[.bool s, .slice ad n cap, .int .i64 e]] w1 fun r w' => ∃ ad' n' cap', r = .returned (.agg #[.bool s, .slice ad' n' cap', .int .i64 e]) ∧ Lim w' ad' n' cap' 18446744073709551616 x ∧ Gr w1 w') := fun w1 g => dyad28 s ad n cap x e w1 (dx.lim.gr g) (by omega)
  clear dx
  have TB : Hid _ := two_blocks w (.bool s) (.slice ad n cap) (.int .i64 e) (.bool false) (.slice none 0 0) (.int .i64 0) _ rfl
  have kb0 : Hid _ := second_block w (.cells #[.bool s, .slice ad n cap, .int .i64 e] 24) (.cells #[.bool false, .slice none 0 0, .int .i64 0] 24)
  go_enter Tryz.func22, Tryz.ntmps22
  go_wp2_with (first | (go_at_call 61; (with_reducible refine (R.out _ (gr2 _ _)).mono ?_); rintro r w1 ⟨rfl, g1⟩; have k := keep6 g1 TB.out; have k0 := k.1.1; have k1 := k.1.2.1; have k2 := k.1.2.2.1; have kb := g1.keepH kb0.out; obtain ⟨t0, t1, t2, u0, u1, u2⟩ := Out3.of kb) | (go_at_call 64; (with_reducible refine (D1.out _ k.2).mono ?_); rintro r w3 ⟨a3, m3, k3, rfl, hl3, g3⟩) | (go_at_call 65; (with_reducible refine (minus70 s a3 m3 k3 e _).mono ?_); rintro r w4 ⟨rfl, g4⟩; have hl4 := hl3.gr g4) | (go_at_call 62; (with_reducible refine (told26f (!s) a3 m3 k3 x e _ hl4 (by omega) (by omega) (by omega)).mono ?_); rintro r w2 ⟨za, zb, zc, zd, zf, zg, rfl, hS, g2⟩; have kb2 := g2.keepH (g4.keepH (g3.keepH kb)); clear k0 k1 k2 t0 t1 t2 u0 u1 u2; obtain ⟨t0, t1, t2, u0, u1, u2⟩ := Out3.of kb2))
  refine bodyPost_ret (v := .tuple #[.agg #[.bool za, .slice zb zc zd, .int .i64 zf], .int .i64 zg]) ?_ rfl ⟨⟨!s, x, e, by omega, rfl, hS.out.set3 kb2 _ _ _⟩, (((((k.2.trans g3).trans g4).trans g2).setCell (p := ⟨w.heap.size + 1, 0, none⟩) (Nat.le_succ _) _).setCell (p := ⟨w.heap.size + 1, 1, none⟩) (Nat.le_succ _) _).setCell (p := ⟨w.heap.size + 1, 2, none⟩) (Nat.le_succ _) _⟩
  simp [results, Tryz.results22, go_sem, t0, t1, t2]
end Go.Proofs.YtbkkpbffdnhidaaGreatDoor
namespace Go.Proofs.YtbkkpbffdnhidaaGreatDoor
open Go.RowKit
set_option linter.unusedVariables false

theorem sameDyadS (s : Bool) (ad1 ad2 : Option Addr) (n1 n2 c1 c2 : Nat) (e : Int) (X : Nat) (w : World) (hx : Lim w ad1 n1 c1 18446744073709551616 X) (hy : Lim w ad2 n2 c2 18446744073709551616 X) :
    Calls Tryz.prog 23 #[.agg #[.bool s, .slice ad1 n1 c1, .int .i64 e], .agg #[.bool s, .slice ad2 n2 c2, .int .i64 e]] w fun r w' => r = .returned (.bool true) ∧ Gr w w' := by
  obtain ⟨xs, rx, gx⟩ := hx
  obtain ⟨ys, ry, gy⟩ := hy
  obtain rfl := gx.unique (by omega) gy
  obtain rfl : n1 = n2 := rx.len.symm.trans ry.len
  have H39 : Hid (∀ w1, Gr w w1 → Calls Tryz.prog 66 #[.slice ad1 n1 c1, .slice ad2 n1 c2] w1 fun r w' => r = .returned (.bool true) ∧ Gr w1 w') := fun w1 g => sameLimbs39 ad1 ad2 n1 c1 c2 xs w1 (rx.gr g) (ry.gr g)
  clear rx ry gx gy
  have TB : Hid _ := two_blocks w (.bool s) (.slice ad1 n1 c1) (.int .i64 e) (.bool s) (.slice ad2 n1 c2) (.int .i64 e) _ rfl
  go_enter Tryz.func23, Tryz.ntmps23
  go_wp2_with (go_at_call 66; (with_reducible refine (H39.out _ (gr2 _ _)).mono ?_); rintro r w1 ⟨rfl, g1⟩; have k := keep6 g1 TB.out; have k2 := k.1.2.2.1; have k5 := k.1.2.2.2.2.2)
  go_ret
  exact ⟨rfl, k.2⟩
set_option maxHeartbeats 1600000 in
/-- is, of two answers that are the same -/
theorem isS (s : Bool) (ad1 ad2 : Option Addr) (n1 n2 c1 c2 : Nat) (e g : Int) (X : Nat) (w : World) (hx : Lim w ad1 n1 c1 18446744073709551616 X) (hy : Lim w ad2 n2 c2 18446744073709551616 X) :
    Calls Tryz.prog 36 #[.agg #[.bool s, .slice ad1 n1 c1, .int .i64 e], .int .i64 g, .agg #[.bool s, .slice ad2 n2 c2, .int .i64 e], .int .i64 g] w fun r w' => r = .returned (.bool true) ∧ Gr w w' := by
  have H18 : Hid (∀ w1, Gr w w1 → Calls Tryz.prog 23 #[.agg #[.bool s, .slice ad1 n1 c1, .int .i64 e], .agg #[.bool s, .slice ad2 n2 c2, .int .i64 e]] w1 fun r w' => r = .returned (.bool true) ∧ Gr w1 w') := fun w1 g => sameDyadS s ad1 ad2 n1 n2 c1 c2 e X w1 (hx.gr g) (hy.gr g)
  clear hx hy
  go_enter Tryz.func36, Tryz.ntmps36
  go_wp2_with (first | (go_at_call 23; (with_reducible refine (H18.out _ (gr2 _ _)).mono ?_); rintro r w1 ⟨rfl, g1⟩))
  go_ret
  exact ⟨rfl, (gr2 _ _).trans g1⟩
def greatB (n : Nat) (e : Int) : Bool := decide (64 < n ∨ (20000 < e ∧ e < 524288) ∨ (e < -20000 ∧ -524288 < e))
set_option maxHeartbeats 1600000 in
theorem great4 (s : Bool) (ad : Option Addr) (n cap : Nat) (e : Int) (w : World) :
    Calls Tryz.prog 5 #[.agg #[.bool s, .slice ad n cap, .int .i64 e]] w fun r w' => r = .returned (.bool (greatB n e)) ∧ Gr w w' := by
  by_cases h1 : 64 < n
  · rw [show greatB n e = true by simp [greatB]; omega]
    have i1 : (64 : Int) < n := by omega
    go_enter Tryz.func5, Tryz.ntmps5
    go_wp2
    go_ret
    exact ⟨rfl, (Gr.refl w).alloc _⟩
  · have i1 : ¬ (64 : Int) < n := by omega
    by_cases h2 : 20000 < e
    · have h4 : ¬ e < -20000 := by omega
      by_cases h3 : e < 524288
      · rw [show greatB n e = true by simp [greatB]; omega]
        go_enter Tryz.func5, Tryz.ntmps5
        go_wp2
        go_ret
        exact ⟨rfl, (Gr.refl w).alloc _⟩
      · rw [show greatB n e = false by simp [greatB]; omega]
        go_enter Tryz.func5, Tryz.ntmps5
        go_wp2
        go_ret
        exact ⟨rfl, (Gr.refl w).alloc _⟩
    · by_cases h4 : e < -20000
      · by_cases h3 : -524288 < e
        · rw [show greatB n e = true by simp [greatB]; omega]
          go_enter Tryz.func5, Tryz.ntmps5
          go_wp2
          go_ret
          exact ⟨rfl, (Gr.refl w).alloc _⟩
        · rw [show greatB n e = false by simp [greatB]; omega]
          go_enter Tryz.func5, Tryz.ntmps5
          go_wp2
          go_ret
          exact ⟨rfl, (Gr.refl w).alloc _⟩
      · rw [show greatB n e = false by simp [greatB]; omega]
        go_enter Tryz.func5, Tryz.ntmps5
        go_wp2
        go_ret
        exact ⟨rfl, (Gr.refl w).alloc _⟩
set_option maxHeartbeats 1600000 in
theorem cmp17A1 (s t : Bool) (ad1 ad2 : Option Addr) (n1 n2 c1 c2 : Nat) (e f : Int) (w : World)
    (R1 : Hid (∀ w1, Gr w w1 → Calls Tryz.prog 44 #[.agg #[.bool s, .slice ad1 n1 c1, .int .i64 e]] w1 fun r w' => r = .returned (.bool false) ∧ Gr w1 w')) :
    Calls Tryz.prog 16 #[.agg #[.bool s, .slice ad1 n1 c1, .int .i64 e], .agg #[.bool t, .slice ad2 n2 c2, .int .i64 f]] w fun r w' => r = .returned (.tuple #[.int .i64 0, .int .i64 2]) ∧ Gr w w' := by
  have TB : Hid _ := two_blocks w (.bool s) (.slice ad1 n1 c1) (.int .i64 e) (.bool t) (.slice ad2 n2 c2) (.int .i64 f) _ rfl
  go_enter Tryz.func16, Tryz.ntmps16
  go_wp2_with (go_at_call 44; (with_reducible refine (R1.out _ (gr2 _ _)).mono ?_); rintro r w1 ⟨rfl, g1⟩; have k1 := keep6 g1 TB.out)
  refine bodyPost_ret (v := .tuple #[.int .i64 0, .int .i64 2]) (by simp [results, Tryz.results16, go_sem]) rfl ⟨rfl, k1.2⟩
set_option maxHeartbeats 1600000 in
theorem cmp17A2 (s t : Bool) (ad1 ad2 : Option Addr) (n1 n2 c1 c2 : Nat) (e f : Int) (w : World)
    (R1 : Hid (∀ w1, Gr w w1 → Calls Tryz.prog 44 #[.agg #[.bool s, .slice ad1 n1 c1, .int .i64 e]] w1 fun r w' => r = .returned (.bool true) ∧ Gr w1 w'))
    (R2 : Hid (∀ w1, Gr w w1 → Calls Tryz.prog 44 #[.agg #[.bool t, .slice ad2 n2 c2, .int .i64 f]] w1 fun r w' => r = .returned (.bool false) ∧ Gr w1 w')) :
    Calls Tryz.prog 16 #[.agg #[.bool s, .slice ad1 n1 c1, .int .i64 e], .agg #[.bool t, .slice ad2 n2 c2, .int .i64 f]] w fun r w' => r = .returned (.tuple #[.int .i64 0, .int .i64 2]) ∧ Gr w w' := by
  have TB : Hid _ := two_blocks w (.bool s) (.slice ad1 n1 c1) (.int .i64 e) (.bool t) (.slice ad2 n2 c2) (.int .i64 f) _ rfl
  have tok : True := trivial
  go_enter Tryz.func16, Tryz.ntmps16
  go_wp2_with (first | (go_at_call 44; have _t := tok; (with_reducible refine (R1.out _ (gr2 _ _)).mono ?_); rintro r w1 ⟨rfl, g1⟩; clear tok; have k1 := keep6 g1 TB.out; have k13 := k1.1.2.2.2.1; have k14 := k1.1.2.2.2.2.1; have k15 := k1.1.2.2.2.2.2) | (go_at_call 44; (with_reducible refine (R2.out _ k1.2).mono ?_); rintro r w2 ⟨rfl, g2⟩; have k2 := keep6 g2 k1; clear k13 k14 k15))
  refine bodyPost_ret (v := .tuple #[.int .i64 0, .int .i64 2]) (by simp [results, Tryz.results16, go_sem]) rfl ⟨rfl, k2.2⟩
end Go.Proofs.YtbkkpbffdnhidaaGreatDoor
namespace Go.Proofs.YtbkkpbffdnhidaaGreatDoor
open Go.RowKit
set_option linter.unusedVariables false

/-- told: that sign, size, power and error -/
def Told (S : Bool) (X : Nat) (E G : Int) (w1 : World) (r : Ending) (w' : World) : Prop := ∃ ad n cap, r = .returned (.tuple #[.agg #[.bool S, .slice ad n cap, .int .i64 E], .int .i64 G]) ∧ Lim w' ad n cap 18446744073709551616 X ∧ Gr w1 w'
/-- both tell the same, in every grown world -/
def Both (f g : Nat) (args : Array Value) (w : World) : Prop := ∃ S X E G, (∀ w1, Gr w w1 → Calls Tryz.prog f args w1 (Told S X E G w1)) ∧ (∀ w1, Gr w w1 → Calls Tryz.prog g args w1 (Told S X E G w1))
theorem both_set {f g : Nat} {args : Array Value} {w : World} (V : Int) (h1 : ∀ w1, Gr w w1 → Calls Tryz.prog f args w1 fun r w' => SetV w' r V ∧ Gr w1 w') (h2 : ∀ w1, Gr w w1 → Calls Tryz.prog g args w1 fun r w' => SetV w' r V ∧ Gr w1 w') : Both f g args w := by
  obtain ⟨S, X, E, G, h⟩ := setv_ans V
  refine ⟨S, X, E, G, fun w1 g1 => (h1 w1 g1).mono ?_, fun w1 g1 => (h2 w1 g1).mono ?_⟩
  · rintro r w' ⟨hs, hg⟩
    obtain ⟨s, ad, n, cap, e, g, rfl, hA⟩ := h _ _ hs
    obtain ⟨rfl, rfl, rfl, hl⟩ := hA
    exact ⟨ad, n, cap, rfl, hl, hg⟩
  · rintro r w' ⟨hs, hg⟩
    obtain ⟨s, ad, n, cap, e, g, rfl, hA⟩ := h _ _ hs
    obtain ⟨rfl, rfl, rfl, hl⟩ := hA
    exact ⟨ad, n, cap, rfl, hl, hg⟩
theorem both_no {f g : Nat} {args : Array Value} {w : World} (G : Int) (h1 : ∀ w1, Gr w w1 → Calls Tryz.prog f args w1 fun r w' => r = .returned (.tuple #[zeroD, .int .i64 G]) ∧ Gr w1 w') (h2 : ∀ w1, Gr w w1 → Calls Tryz.prog g args w1 fun r w' => r = .returned (.tuple #[zeroD, .int .i64 G]) ∧ Gr w1 w') : Both f g args w := by
  refine ⟨false, 0, 0, G, fun w1 g1 => (h1 w1 g1).mono ?_, fun w1 g1 => (h2 w1 g1).mono ?_⟩
  · rintro r w' ⟨rfl, hg⟩
    exact ⟨none, 0, 0, rfl, nil_lim _, hg⟩
  · rintro r w' ⟨rfl, hg⟩
    exact ⟨none, 0, 0, rfl, nil_lim _, hg⟩
theorem r35t (s : Bool) (ad : Option Addr) (n cap : Nat) (e : Int) (xs : List Nat) (w : World) (r1 : Row w ad n cap xs) (h1 : ∀ x ∈ xs, x < 18446744073709551616) (hq : RightD s xs e) : Hid (∀ w1, Gr w w1 → Calls Tryz.prog 44 #[.agg #[.bool s, .slice ad n cap, .int .i64 e]] w1 fun r w' => r = .returned (.bool true) ∧ Gr w1 w') := by
  intro w1 g
  have := right26 s ad n cap e xs w1 (r1.gr g) h1
  rw [rightB_t hq] at this
  exact this
theorem r35f (s : Bool) (ad : Option Addr) (n cap : Nat) (e : Int) (xs : List Nat) (w : World) (r1 : Row w ad n cap xs) (h1 : ∀ x ∈ xs, x < 18446744073709551616) (hq : ¬ RightD s xs e) : Hid (∀ w1, Gr w w1 → Calls Tryz.prog 44 #[.agg #[.bool s, .slice ad n cap, .int .i64 e]] w1 fun r w' => r = .returned (.bool false) ∧ Gr w1 w') := by
  intro w1 g
  have := right26 s ad n cap e xs w1 (r1.gr g) h1
  rw [rightB_f hq] at this
  exact this
theorem r25t (s : Bool) (ad : Option Addr) (n cap : Nat) (e : Int) (xs : List Nat) (w : World) (r1 : Row w ad n cap xs) (h1 : ∀ x ∈ xs, x < 18446744073709551616) (hq : RightD s xs e) : Hid (∀ w1, Gr w w1 → Calls Tryz.prog 61 #[.agg #[.bool s, .slice ad n cap, .int .i64 e]] w1 fun r w' => r = .returned (.bool true) ∧ Gr w1 w') := by
  intro w1 g
  have := right25 s ad n cap e xs w1 (r1.gr g) h1
  rw [rightB_t hq] at this
  exact this
theorem r25f (s : Bool) (ad : Option Addr) (n cap : Nat) (e : Int) (xs : List Nat) (w : World) (r1 : Row w ad n cap xs) (h1 : ∀ x ∈ xs, x < 18446744073709551616) (hq : ¬ RightD s xs e) : Hid (∀ w1, Gr w w1 → Calls Tryz.prog 61 #[.agg #[.bool s, .slice ad n cap, .int .i64 e]] w1 fun r w' => r = .returned (.bool false) ∧ Gr w1 w') := by
  intro w1 g
  have := right25 s ad n cap e xs w1 (r1.gr g) h1
  rw [rightB_f hq] at this
  exact this
theorem both_add (s t : Bool) (ad1 ad2 : Option Addr) (n1 n2 c1 c2 : Nat) (e f : Int) (xs ys : List Nat) (w : World) (r1 : Row w ad1 n1 c1 xs) (r2 : Row w ad2 n2 c2 ys) (h1 : ∀ x ∈ xs, x < 18446744073709551616) (h2 : ∀ x ∈ ys, x < 18446744073709551616) (hT : TabAt 1 Lib.deBruijn64tab w) : Both 9 21 #[.agg #[.bool s, .slice ad1 n1 c1, .int .i64 e], .agg #[.bool t, .slice ad2 n2 c2, .int .i64 f]] w := by
  by_cases q1 : RightD s xs e
  · by_cases q2 : RightD t ys f
    · have dx := dyAt_of r1 h1 q1
      have dy := dyAt_of r2 h2 q2
      exact both_set (sv KK s (nv 18446744073709551616 xs) e + sv KK t (nv 18446744073709551616 ys) f) (fun w1 g => addS s t ad1 ad2 n1 n2 c1 c2 e f _ _ w1 (dx.gr g) (dy.gr g) (tab_gr hT g)) (fun w1 g => ref7 s t ad1 ad2 n1 n2 c1 c2 e f _ _ w1 (dx.gr g) (dy.gr g))
    · exact both_no 2 (fun w1 g => op6A2 s t ad1 ad2 n1 n2 c1 c2 e f w1 (r35t s ad1 n1 c1 e xs w1 (r1.gr g) h1 q1) (r35f t ad2 n2 c2 f ys w1 (r2.gr g) h2 q2)) (fun w1 g => raddA2 s t ad1 ad2 n1 n2 c1 c2 e f w1 (r25t s ad1 n1 c1 e xs w1 (r1.gr g) h1 q1) (r25f t ad2 n2 c2 f ys w1 (r2.gr g) h2 q2))
  · exact both_no 2 (fun w1 g => op6A1 s t ad1 ad2 n1 n2 c1 c2 e f w1 (r35f s ad1 n1 c1 e xs w1 (r1.gr g) h1 q1)) (fun w1 g => raddA1 s t ad1 ad2 n1 n2 c1 c2 e f w1 (r25f s ad1 n1 c1 e xs w1 (r1.gr g) h1 q1))
theorem both_neg (s : Bool) (ad : Option Addr) (n cap : Nat) (e : Int) (xs : List Nat) (w : World) (r1 : Row w ad n cap xs) (h1 : ∀ x ∈ xs, x < 18446744073709551616) (hT : TabAt 1 Lib.deBruijn64tab w) : Both 12 22 #[.agg #[.bool s, .slice ad n cap, .int .i64 e]] w := by
  by_cases q1 : RightD s xs e
  · have dx := dyAt_of r1 h1 q1
    exact both_set (sv KK (!s) (nv 18446744073709551616 xs) e) (fun w1 g => negS s ad n cap _ e w1 (dx.gr g) (tab_gr hT g)) (fun w1 g => rneg14 s ad n cap _ e w1 (dx.gr g))
  · exact both_no 2 (fun w1 g => neg13A s ad n cap e w1 (r35f s ad n cap e xs w1 (r1.gr g) h1 q1)) (fun w1 g => rneg14A s ad n cap e w1 (r25f s ad n cap e xs w1 (r1.gr g) h1 q1))
theorem settled_far {w : World} {r : Ending} {s : Bool} {q : Nat} {E : Int} (h : Settled w r s (2 * q + 1) E) (hE : E < -1048576 ∨ 1048576 < E) : r = .returned (.tuple #[zeroD, .int .i64 3]) := by
  unfold Settled at h
  rcases h with ⟨h, _⟩ | ⟨t, q', ad, n, cap, hx, hF, _⟩ | ⟨_, _, _, _, h⟩
  · omega
  · have := odd_unique (t := 0) (q := q) (t' := t) (q' := q') (by rw [Nat.pow_zero, Nat.one_mul]; exact hx)
    have h2 := hF.2
    omega
  · exact h
end Go.Proofs.YtbkkpbffdnhidaaGreatDoor
