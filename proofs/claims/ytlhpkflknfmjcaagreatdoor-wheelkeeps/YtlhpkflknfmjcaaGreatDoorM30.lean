import Derived.Test.YtlhpkflknfmjcaaGreatDoorM29
import Derived.Test.YtlhpkflknfmjcaaGreatDoorM21
namespace Go.Proofs.YtlhpkflknfmjcaaGreatDoor
open Go.RowKit
set_option linter.unusedVariables false

theorem addS (s t : Bool) (ad1 ad2 : Option Addr) (n1 n2 c1 c2 : Nat) (e f : Int) (x y : Nat) (w : World) (dx : DyAt w s ad1 n1 c1 e x) (dy : DyAt w t ad2 n2 c2 f y) (hT : TabAt 2 Lib.deBruijn64tab w) :
    Calls Tryz.prog 174 #[.agg #[.bool s, .slice ad1 n1 c1, .int .i64 e], .agg #[.bool t, .slice ad2 n2 c2, .int .i64 f]] w fun r w' => SetV w' r (sv KK s x e + sv KK t y f) ∧ Gr w w' := by
  have hkk := KK_eq
  have e1 := dx.low
  have f1 := dy.low
  by_cases hfar : 0 < x ∧ 0 < y ∧ 262144 < max e f - min e f
  · obtain ⟨x0, y0, hef⟩ := hfar
    obtain ⟨k1, rfl⟩ := lim_pos dx.lim x0
    obtain ⟨k2, rfl⟩ := lim_pos dy.lim y0
    refine (toldE9 s t ad1 ad2 (k1 + 1) (k2 + 1) c1 c2 e f w dx.r26 dy.r26 (fun w1 g => sum_far s t ad1 ad2 k1 k2 c1 c2 e f w1 dx.low dx.high dy.low dy.high hef)).mono ?_
    rintro r w' ⟨rfl, g⟩
    exact ⟨far_setv w' s t x y e f dx.odd dy.odd x0 y0 dx.lt dy.lt (by omega) (by omega) hef, g⟩
  · obtain ⟨neg, m, g, hs, g1, g2, C⟩ := sum29u s t ad1 ad2 n1 n2 c1 c2 x y e f w dx.lim dy.lim dx.le dy.le dx.low dx.high dy.low dy.high (fun x0 y0 hef => hfar ⟨x0, y0, hef⟩)
    obtain ⟨h0, hw⟩ := hs KK (by omega) (by omega)
    refine (told9 s t neg ad1 ad2 n1 n2 c1 c2 m e f g w hT (by omega) (by omega) dx.r26 dy.r26 C).mono ?_
    rintro r w' ⟨h1, h2⟩
    exact ⟨⟨neg, m, g, h0, hw, h1⟩, h2⟩
theorem subS (s t : Bool) (ad1 ad2 : Option Addr) (n1 n2 c1 c2 : Nat) (e f : Int) (x y : Nat) (w : World) (dx : DyAt w s ad1 n1 c1 e x) (dy : DyAt w t ad2 n2 c2 f y) (hT : TabAt 2 Lib.deBruijn64tab w) :
    Calls Tryz.prog 177 #[.agg #[.bool s, .slice ad1 n1 c1, .int .i64 e], .agg #[.bool t, .slice ad2 n2 c2, .int .i64 f]] w fun r w' => SetV w' r (sv KK s x e - sv KK t y f) ∧ Gr w w' := by
  have hkk := KK_eq
  have e1 := dx.low
  have f1 := dy.low
  have hV : sv KK s x e - sv KK t y f = sv KK s x e + sv KK (!t) y f := by rw [sv_neg, ← Int.sub_eq_add_neg]
  rw [hV]
  by_cases hfar : 0 < x ∧ 0 < y ∧ 262144 < max e f - min e f
  · obtain ⟨x0, y0, hef⟩ := hfar
    obtain ⟨k1, rfl⟩ := lim_pos dx.lim x0
    obtain ⟨k2, rfl⟩ := lim_pos dy.lim y0
    refine (toldE11 s t ad1 ad2 (k1 + 1) (k2 + 1) c1 c2 e f w dx.r26 dy.r26 (fun w1 g => sum_far s (!t) ad1 ad2 k1 k2 c1 c2 e f w1 dx.low dx.high dy.low dy.high hef)).mono ?_
    rintro r w' ⟨rfl, g⟩
    exact ⟨far_setv w' s (!t) x y e f dx.odd dy.odd x0 y0 dx.lt dy.lt (by omega) (by omega) hef, g⟩
  · obtain ⟨neg, m, g, hs, g1, g2, C⟩ := sum29u s (!t) ad1 ad2 n1 n2 c1 c2 x y e f w dx.lim dy.lim dx.le dy.le dx.low dx.high dy.low dy.high (fun x0 y0 hef => hfar ⟨x0, y0, hef⟩)
    obtain ⟨h0, hw⟩ := hs KK (by omega) (by omega)
    refine (told11 s t neg ad1 ad2 n1 n2 c1 c2 m e f g w hT (by omega) (by omega) dx.r26 dy.r26 C).mono ?_
    rintro r w' ⟨h1, h2⟩
    exact ⟨⟨neg, m, g, h0, hw, h1⟩, h2⟩
theorem negS (s : Bool) (ad : Option Addr) (n cap x : Nat) (e : Int) (w : World) (dx : DyAt w s ad n cap e x) (hT : TabAt 2 Lib.deBruijn64tab w) :
    Calls Tryz.prog 173 #[.agg #[.bool s, .slice ad n cap, .int .i64 e]] w fun r w' => SetV w' r (sv KK (!s) x e) ∧ Gr w w' := by
  have hkk := KK_eq
  obtain ⟨xs, h1, h2, h3⟩ := dx.rightD
  have := dx.le
  have := dx.low
  have := dx.high
  refine (neg14 s ad n cap x e xs w h1 h2.2.1 h2.1 (by omega) hT (by omega) (by omega) h3).mono ?_
  rintro r w' ⟨h4, h5⟩
  exact ⟨⟨_, _, _, by omega, rfl, h4⟩, h5⟩
set_option maxRecDepth 10000 in
set_option maxHeartbeats 1600000 in
theorem neg13A (s : Bool) (ad : Option Addr) (n cap : Nat) (e : Int) (w : World) (R : Hid (∀ w1, Gr w w1 → Calls Tryz.prog 161 #[.agg #[.bool s, .slice ad n cap, .int .i64 e]] w1 fun r w' => r = .returned (.bool false) ∧ Gr w1 w')) :
    Calls Tryz.prog 173 #[.agg #[.bool s, .slice ad n cap, .int .i64 e]] w fun r w' => r = .returned (.tuple #[zeroD, .int .i64 2]) ∧ Gr w w' := by
  have TB : Hid _ := two_blocks w (.bool s) (.slice ad n cap) (.int .i64 e) (.bool false) (.slice none 0 0) (.int .i64 0) _ rfl
  have kb0 : Hid _ := second_block w (.cells #[.bool s, .slice ad n cap, .int .i64 e] 121) (.cells #[.bool false, .slice none 0 0, .int .i64 0] 121)
  go_enter Tryz.func173, Tryz.ntmps173
  go_wp2_with (first | (go_at_call 161; (with_reducible refine (R.out _ (gr2 _ _)).mono ?_); rintro r w1 ⟨rfl, g1⟩; have k := keep6 g1 TB.out; have k0 := k.1.1; have k1 := k.1.2.1; have k2 := k.1.2.2.1; have kb := g1.keepH kb0.out; obtain ⟨t0, t1, t2, u0, u1, u2⟩ := Out3.of kb))
  refine bodyPost_ret (v := .tuple #[zeroD, .int .i64 2]) ?_ rfl ⟨rfl, (((k.2).setCell (p := ⟨w.heap.size + 1, 0, none⟩) (Nat.le_succ _) _).setCell (p := ⟨w.heap.size + 1, 1, none⟩) (Nat.le_succ _) _).setCell (p := ⟨w.heap.size + 1, 2, none⟩) (Nat.le_succ _) _⟩
  simp [results, Tryz.results173, go_sem, t0, t1, t2, zeroD]
set_option maxRecDepth 10000 in
set_option maxHeartbeats 1600000 in
theorem scale15A (s : Bool) (ad : Option Addr) (n cap : Nat) (e : Int) (p : Int) (w : World) (R : Hid (∀ w1, Gr w w1 → Calls Tryz.prog 161 #[.agg #[.bool s, .slice ad n cap, .int .i64 e]] w1 fun r w' => r = .returned (.bool false) ∧ Gr w1 w')) :
    Calls Tryz.prog 176 #[.agg #[.bool s, .slice ad n cap, .int .i64 e], .int .i64 p] w fun r w' => r = .returned (.tuple #[zeroD, .int .i64 2]) ∧ Gr w w' := by
  have TB : Hid _ := two_blocks w (.bool s) (.slice ad n cap) (.int .i64 e) (.bool false) (.slice none 0 0) (.int .i64 0) _ rfl
  have kb0 : Hid _ := second_block w (.cells #[.bool s, .slice ad n cap, .int .i64 e] 121) (.cells #[.bool false, .slice none 0 0, .int .i64 0] 121)
  go_enter Tryz.func176, Tryz.ntmps176
  go_wp2_with (first | (go_at_call 161; (with_reducible refine (R.out _ (gr2 _ _)).mono ?_); rintro r w1 ⟨rfl, g1⟩; have k := keep6 g1 TB.out; have k0 := k.1.1; have k1 := k.1.2.1; have k2 := k.1.2.2.1; have kb := g1.keepH kb0.out; obtain ⟨t0, t1, t2, u0, u1, u2⟩ := Out3.of kb))
  refine bodyPost_ret (v := .tuple #[zeroD, .int .i64 2]) ?_ rfl ⟨rfl, (((k.2).setCell (p := ⟨w.heap.size + 1, 0, none⟩) (Nat.le_succ _) _).setCell (p := ⟨w.heap.size + 1, 1, none⟩) (Nat.le_succ _) _).setCell (p := ⟨w.heap.size + 1, 2, none⟩) (Nat.le_succ _) _⟩
  simp [results, Tryz.results176, go_sem, t0, t1, t2, zeroD]
set_option maxRecDepth 10000 in
set_option maxHeartbeats 1600000 in
theorem scale15z (s : Bool) (ad : Option Addr) (n cap : Nat) (e : Int) (p : Int) (w : World) (R : Hid (∀ w1, Gr w w1 → Calls Tryz.prog 161 #[.agg #[.bool s, .slice ad 0 cap, .int .i64 e]] w1 fun r w' => r = .returned (.bool true) ∧ Gr w1 w')) :
    Calls Tryz.prog 176 #[.agg #[.bool s, .slice ad 0 cap, .int .i64 e], .int .i64 p] w fun r w' => r = .returned (.tuple #[zeroD, .int .i64 0]) ∧ Gr w w' := by
  have TB : Hid _ := two_blocks w (.bool s) (.slice ad 0 cap) (.int .i64 e) (.bool false) (.slice none 0 0) (.int .i64 0) _ rfl
  have kb0 : Hid _ := second_block w (.cells #[.bool s, .slice ad 0 cap, .int .i64 e] 121) (.cells #[.bool false, .slice none 0 0, .int .i64 0] 121)
  go_enter Tryz.func176, Tryz.ntmps176
  go_wp2_with (first | (go_at_call 161; (with_reducible refine (R.out _ (gr2 _ _)).mono ?_); rintro r w1 ⟨rfl, g1⟩; have k := keep6 g1 TB.out; have k0 := k.1.1; have k1 := k.1.2.1; have k2 := k.1.2.2.1; have kb := g1.keepH kb0.out; obtain ⟨t0, t1, t2, u0, u1, u2⟩ := Out3.of kb))
  refine bodyPost_ret (v := .tuple #[zeroD, .int .i64 0]) ?_ rfl ⟨rfl, (((k.2).setCell (p := ⟨w.heap.size + 1, 0, none⟩) (Nat.le_succ _) _).setCell (p := ⟨w.heap.size + 1, 1, none⟩) (Nat.le_succ _) _).setCell (p := ⟨w.heap.size + 1, 2, none⟩) (Nat.le_succ _) _⟩
  simp [results, Tryz.results176, go_sem, t0, t1, t2, zeroD]
set_option maxRecDepth 10000 in
set_option maxHeartbeats 1600000 in
theorem scale15lo (s : Bool) (ad : Option Addr) (n cap : Nat) (e : Int) (p : Int) (hp : p < -2097152) (w : World) (R : Hid (∀ w1, Gr w w1 → Calls Tryz.prog 161 #[.agg #[.bool s, .slice ad (n + 1) cap, .int .i64 e]] w1 fun r w' => r = .returned (.bool true) ∧ Gr w1 w')) :
    Calls Tryz.prog 176 #[.agg #[.bool s, .slice ad (n + 1) cap, .int .i64 e], .int .i64 p] w fun r w' => r = .returned (.tuple #[zeroD, .int .i64 3]) ∧ Gr w w' := by
  have TB : Hid _ := two_blocks w (.bool s) (.slice ad (n + 1) cap) (.int .i64 e) (.bool false) (.slice none 0 0) (.int .i64 0) _ rfl
  have kb0 : Hid _ := second_block w (.cells #[.bool s, .slice ad (n + 1) cap, .int .i64 e] 121) (.cells #[.bool false, .slice none 0 0, .int .i64 0] 121)
  have z1 : ((n : Int) + 1 == 0) = false := by simp; omega
  go_enter Tryz.func176, Tryz.ntmps176
  go_wp2_with (first | (go_at_call 161; (with_reducible refine (R.out _ (gr2 _ _)).mono ?_); rintro r w1 ⟨rfl, g1⟩; have k := keep6 g1 TB.out; have k0 := k.1.1; have k1 := k.1.2.1; have k2 := k.1.2.2.1; have kb := g1.keepH kb0.out; obtain ⟨t0, t1, t2, u0, u1, u2⟩ := Out3.of kb))
  refine bodyPost_ret (v := .tuple #[zeroD, .int .i64 3]) ?_ rfl ⟨rfl, (((k.2).setCell (p := ⟨w.heap.size + 1, 0, none⟩) (Nat.le_succ _) _).setCell (p := ⟨w.heap.size + 1, 1, none⟩) (Nat.le_succ _) _).setCell (p := ⟨w.heap.size + 1, 2, none⟩) (Nat.le_succ _) _⟩
  simp [results, Tryz.results176, go_sem, t0, t1, t2, zeroD]
set_option maxRecDepth 10000 in
set_option maxHeartbeats 1600000 in
theorem scale15hi (s : Bool) (ad : Option Addr) (n cap : Nat) (e : Int) (p : Int) (hp : 2097152 < p) (w : World) (R : Hid (∀ w1, Gr w w1 → Calls Tryz.prog 161 #[.agg #[.bool s, .slice ad (n + 1) cap, .int .i64 e]] w1 fun r w' => r = .returned (.bool true) ∧ Gr w1 w')) :
    Calls Tryz.prog 176 #[.agg #[.bool s, .slice ad (n + 1) cap, .int .i64 e], .int .i64 p] w fun r w' => r = .returned (.tuple #[zeroD, .int .i64 3]) ∧ Gr w w' := by
  have TB : Hid _ := two_blocks w (.bool s) (.slice ad (n + 1) cap) (.int .i64 e) (.bool false) (.slice none 0 0) (.int .i64 0) _ rfl
  have kb0 : Hid _ := second_block w (.cells #[.bool s, .slice ad (n + 1) cap, .int .i64 e] 121) (.cells #[.bool false, .slice none 0 0, .int .i64 0] 121)
  have z1 : ((n : Int) + 1 == 0) = false := by simp; omega
  have z2 : ¬ p < -2097152 := by omega
  have z3 : p > 2097152 := by omega
  go_enter Tryz.func176, Tryz.ntmps176
  go_wp2_with (first | (go_at_call 161; (with_reducible refine (R.out _ (gr2 _ _)).mono ?_); rintro r w1 ⟨rfl, g1⟩; have k := keep6 g1 TB.out; have k0 := k.1.1; have k1 := k.1.2.1; have k2 := k.1.2.2.1; have kb := g1.keepH kb0.out; obtain ⟨t0, t1, t2, u0, u1, u2⟩ := Out3.of kb))
  refine bodyPost_ret (v := .tuple #[zeroD, .int .i64 3]) ?_ rfl ⟨rfl, (((k.2).setCell (p := ⟨w.heap.size + 1, 0, none⟩) (Nat.le_succ _) _).setCell (p := ⟨w.heap.size + 1, 1, none⟩) (Nat.le_succ _) _).setCell (p := ⟨w.heap.size + 1, 2, none⟩) (Nat.le_succ _) _⟩
  simp [results, Tryz.results176, go_sem, t0, t1, t2, zeroD]
set_option maxRecDepth 10000 in
set_option maxHeartbeats 1600000 in
theorem scale15mn (s : Bool) (ad : Option Addr) (n cap x : Nat) (e p : Int) (w : World) (dx : DyAt w s ad (n + 1) cap e x) (hT : TabAt 2 Lib.deBruijn64tab w) (p1 : -2097152 ≤ p) (p2 : p ≤ 2097152) :
    Calls Tryz.prog 176 #[.agg #[.bool s, .slice ad (n + 1) cap, .int .i64 e], .int .i64 p] w fun r w' => SettledN w.heap.size w' r s x (e + p) ∧ Gr w w' := by
  have R := dx.r26
  have b1 := dx.le
  have e1 := dx.low
  have e2 := dx.high
  have S35 : Hid (∀ w1, Gr w w1 → Calls Tryz.prog 184 #[.agg #[.bool s, .slice ad (n + 1) cap, .int .i64 (e + p)]] w1 fun r w' => ∃ a b c d f' g', r = .returned (.tuple #[.agg #[.bool a, .slice b c d, .int .i64 f'], .int .i64 g']) ∧ Hid (SettledN w.heap.size w' r s x (e + p)) ∧ Gr w1 w') := fun w1 g => by
    obtain ⟨xs, rx, gx⟩ := dx.lim.gr g
    refine (settle35n s ad (n + 1) cap x (e + p) xs w1 rx gx.2.1 gx.1 (by omega) (tab_gr hT g) (by omega) (by omega)).mono ?_
    rintro r w' ⟨h1, h2⟩
    obtain ⟨a, b, c, d, f, g', hr⟩ := h1.form
    exact ⟨a, b, c, d, f, g', hr, h1.low g.size, h2⟩
  clear dx hT
  have TB : Hid _ := two_blocks w (.bool s) (.slice ad (n + 1) cap) (.int .i64 e) (.bool false) (.slice none 0 0) (.int .i64 0) _ rfl
  have kb0 : Hid _ := second_block w (.cells #[.bool s, .slice ad (n + 1) cap, .int .i64 e] 121) (.cells #[.bool false, .slice none 0 0, .int .i64 0] 121)
  have z1 : ((n : Int) + 1 == 0) = false := by simp; omega
  have z2 : ¬ p < -2097152 := by omega
  have z3 : ¬ p > 2097152 := by omega
  go_enter Tryz.func176, Tryz.ntmps176
  go_wp2_with (first | (go_at_call 161; (with_reducible refine (R.out _ (gr2 _ _)).mono ?_); rintro r w1 ⟨rfl, g1⟩; have k := keep6 g1 TB.out; have k0 := k.1.1; have k1 := k.1.2.1; have k2 := k.1.2.2.1; have kb := g1.keepH kb0.out; obtain ⟨t0, t1, t2, u0, u1, u2⟩ := Out3.of kb) | (go_at_call 184; (with_reducible refine (S35.out _ k.2).mono ?_); rintro r w2 ⟨za, zb, zc, zd, zf, zg, rfl, hS, g2⟩; have kb2 := g2.keepH kb; clear k0 k1 k2 t0 t1 t2 u0 u1 u2; obtain ⟨t0, t1, t2, u0, u1, u2⟩ := Out3.of kb2))
  refine bodyPost_ret (v := .tuple #[.agg #[.bool za, .slice zb zc zd, .int .i64 zf], .int .i64 zg]) ?_ rfl ⟨hS.out.set3 kb2 _ _ _, (((k.2.trans g2).setCell (p := ⟨w.heap.size + 1, 0, none⟩) (Nat.le_succ _) _).setCell (p := ⟨w.heap.size + 1, 1, none⟩) (Nat.le_succ _) _).setCell (p := ⟨w.heap.size + 1, 2, none⟩) (Nat.le_succ _) _⟩
  simp [results, Tryz.results176, go_sem, t0, t1, t2]
theorem scale15m (s : Bool) (ad : Option Addr) (n cap x : Nat) (e p : Int) (w : World) (dx : DyAt w s ad (n + 1) cap e x) (hT : TabAt 2 Lib.deBruijn64tab w) (p1 : -2097152 ≤ p) (p2 : p ≤ 2097152) :
    Calls Tryz.prog 176 #[.agg #[.bool s, .slice ad (n + 1) cap, .int .i64 e], .int .i64 p] w fun r w' => Settled w' r s x (e + p) ∧ Gr w w' :=
  (scale15mn s ad n cap x e p w dx hT p1 p2).mono (by rintro r w' ⟨h1, h2⟩; exact ⟨h1.told, h2⟩)
end Go.Proofs.YtlhpkflknfmjcaaGreatDoor
namespace Go.Proofs.YtlhpkflknfmjcaaGreatDoor
open Go.RowKit
set_option linter.unusedVariables false

theorem sameDyadS (s : Bool) (ad1 ad2 : Option Addr) (n1 n2 c1 c2 : Nat) (e : Int) (X : Nat) (w : World) (hx : Lim w ad1 n1 c1 18446744073709551616 X) (hy : Lim w ad2 n2 c2 18446744073709551616 X) :
    Calls Tryz.prog 115 #[.agg #[.bool s, .slice ad1 n1 c1, .int .i64 e], .agg #[.bool s, .slice ad2 n2 c2, .int .i64 e]] w fun r w' => r = .returned (.bool true) ∧ Gr w w' := by
  obtain ⟨xs, rx, gx⟩ := hx
  obtain ⟨ys, ry, gy⟩ := hy
  obtain rfl := gx.unique (by omega) gy
  obtain rfl : n1 = n2 := rx.len.symm.trans ry.len
  have H39 : Hid (∀ w1, Gr w w1 → Calls Tryz.prog 145 #[.slice ad1 n1 c1, .slice ad2 n1 c2] w1 fun r w' => r = .returned (.bool true) ∧ Gr w1 w') := fun w1 g => sameLimbs39 ad1 ad2 n1 c1 c2 xs w1 (rx.gr g) (ry.gr g)
  clear rx ry gx gy
  have TB : Hid _ := two_blocks w (.bool s) (.slice ad1 n1 c1) (.int .i64 e) (.bool s) (.slice ad2 n1 c2) (.int .i64 e) _ rfl
  go_enter Tryz.func115, Tryz.ntmps115
  go_wp2_with (go_at_call 145; (with_reducible refine (H39.out _ (gr2 _ _)).mono ?_); rintro r w1 ⟨rfl, g1⟩; have k := keep6 g1 TB.out; have k2 := k.1.2.2.1; have k5 := k.1.2.2.2.2.2)
  go_ret
  exact ⟨rfl, k.2⟩
def greatB (n : Nat) (e : Int) : Bool := decide (64 < n ∨ (20000 < e ∧ e < 524288) ∨ (e < -20000 ∧ -524288 < e))
end Go.Proofs.YtlhpkflknfmjcaaGreatDoor
namespace Go.Proofs.YtlhpkflknfmjcaaGreatDoor
open Go.RowKit
set_option linter.unusedVariables false

/-- told: that sign, size, power and error -/
def Told (S : Bool) (X : Nat) (E G : Int) (w1 : World) (r : Ending) (w' : World) : Prop := ∃ ad n cap, r = .returned (.tuple #[.agg #[.bool S, .slice ad n cap, .int .i64 E], .int .i64 G]) ∧ Lim w' ad n cap 18446744073709551616 X ∧ Gr w1 w'
/-- both tell the same, in every grown world -/
def Both (f g : Nat) (args : Array Value) (w : World) : Prop := ∃ S X E G, (∀ w1, Gr w w1 → Calls Tryz.prog f args w1 (Told S X E G w1)) ∧ (∀ w1, Gr w w1 → Calls Tryz.prog g args w1 (Told S X E G w1))
theorem both_set {f g : Nat} {args : Array Value} {w : World} (V : Int) (h1 : ∀ w1, Gr w w1 → Calls Tryz.prog f args w1 fun r w' => SetV w' r V ∧ Gr w1 w') (h2 : ∀ w1, Gr w w1 → Calls Tryz.prog g args w1 fun r w' => SetV w' r V ∧ Gr w1 w') : Both f g args w := by
  obtain ⟨S, X, E, G, h⟩ := setv_ans V
  refine ⟨S, X, E, G, fun w1 g1 => (h1 w1 g1).mono ?_, fun w1 g1 => (h2 w1 g1).mono ?_⟩
  · rintro r w' ⟨hs, hg⟩
    obtain ⟨s, ad, n, cap, e, g, rfl, hA⟩ := h _ _ hs
    obtain ⟨rfl, rfl, rfl, hl⟩ := hA
    exact ⟨ad, n, cap, rfl, hl, hg⟩
  · rintro r w' ⟨hs, hg⟩
    obtain ⟨s, ad, n, cap, e, g, rfl, hA⟩ := h _ _ hs
    obtain ⟨rfl, rfl, rfl, hl⟩ := hA
    exact ⟨ad, n, cap, rfl, hl, hg⟩
theorem both_no {f g : Nat} {args : Array Value} {w : World} (G : Int) (h1 : ∀ w1, Gr w w1 → Calls Tryz.prog f args w1 fun r w' => r = .returned (.tuple #[zeroD, .int .i64 G]) ∧ Gr w1 w') (h2 : ∀ w1, Gr w w1 → Calls Tryz.prog g args w1 fun r w' => r = .returned (.tuple #[zeroD, .int .i64 G]) ∧ Gr w1 w') : Both f g args w := by
  refine ⟨false, 0, 0, G, fun w1 g1 => (h1 w1 g1).mono ?_, fun w1 g1 => (h2 w1 g1).mono ?_⟩
  · rintro r w' ⟨rfl, hg⟩
    exact ⟨none, 0, 0, rfl, nil_lim _, hg⟩
  · rintro r w' ⟨rfl, hg⟩
    exact ⟨none, 0, 0, rfl, nil_lim _, hg⟩
theorem r35t (s : Bool) (ad : Option Addr) (n cap : Nat) (e : Int) (xs : List Nat) (w : World) (r1 : Row w ad n cap xs) (h1 : ∀ x ∈ xs, x < 18446744073709551616) (hq : RightD s xs e) : Hid (∀ w1, Gr w w1 → Calls Tryz.prog 161 #[.agg #[.bool s, .slice ad n cap, .int .i64 e]] w1 fun r w' => r = .returned (.bool true) ∧ Gr w1 w') := by
  intro w1 g
  have := right26 s ad n cap e xs w1 (r1.gr g) h1
  rw [rightB_t hq] at this
  exact this
theorem r35f (s : Bool) (ad : Option Addr) (n cap : Nat) (e : Int) (xs : List Nat) (w : World) (r1 : Row w ad n cap xs) (h1 : ∀ x ∈ xs, x < 18446744073709551616) (hq : ¬ RightD s xs e) : Hid (∀ w1, Gr w w1 → Calls Tryz.prog 161 #[.agg #[.bool s, .slice ad n cap, .int .i64 e]] w1 fun r w' => r = .returned (.bool false) ∧ Gr w1 w') := by
  intro w1 g
  have := right26 s ad n cap e xs w1 (r1.gr g) h1
  rw [rightB_f hq] at this
  exact this
theorem settled_far {w : World} {r : Ending} {s : Bool} {q : Nat} {E : Int} (h : Settled w r s (2 * q + 1) E) (hE : E < -1048576 ∨ 1048576 < E) : r = .returned (.tuple #[zeroD, .int .i64 3]) := by
  unfold Settled at h
  rcases h with ⟨h, _⟩ | ⟨t, q', ad, n, cap, hx, hF, _⟩ | ⟨_, _, _, _, h⟩
  · omega
  · have := odd_unique (t := 0) (q := q) (t' := t) (q' := q') (by rw [Nat.pow_zero, Nat.one_mul]; exact hx)
    have h2 := hF.2
    omega
  · exact h
end Go.Proofs.YtlhpkflknfmjcaaGreatDoor
namespace Go.Proofs.YtlhpkflknfmjcaaGreatDoor
theorem SettledN.gr {B : Nat} {w w' : World} {r : Ending} {s : Bool} {x : Nat} {e : Int} (h : SettledN B w r s x e) (g : Gr w w') : SettledN B w' r s x e := ⟨h.told.gr g, h.new.gr g⟩
end Go.Proofs.YtlhpkflknfmjcaaGreatDoor
namespace Go.Proofs.YtlhpkflknfmjcaaGreatDoor.Fl
open Go.RowKit
open Ieee
set_option linter.unusedVariables false

theorem int10nw (v : Nat) (n : Int) (h2 : v ≤ 9223372036854775808) (hv : n = -(v : Int)) (hn : n < 0) : IntKind.u64.wrap (-IntKind.u64.wrap n) = (v : Int) := by
  simp only [IntKind.wrap_u64]
  omega
set_option maxHeartbeats 1600000 in
theorem int10n (v : Nat) (n : Int) (w : World) (hn : n < 0) (hv : Hid (n = -(v : Int))) (h2 : v ≤ 9223372036854775808) (hT : TabAt 2 Lib.deBruijn64tab w) :
    Calls Tryz.prog 171 #[.int .i64 n] w fun r w' => ∃ a b c d f g, r = .returned (.agg #[.bool a, .slice b c d, .int .i64 f]) ∧ Hid (SettledN w.heap.size w' (.returned (.tuple #[.agg #[.bool a, .slice b c d, .int .i64 f], .int .i64 g])) true v 0) ∧ Gr w w' := by
  have HS := settle1 true v 0 w (.cells #[.bool false, .slice none 0 0, .int .i64 0] 121) (by omega) hT (by omega) (by omega)
  have kb0 : Hid _ := first_block w (.cells #[.bool false, .slice none 0 0, .int .i64 0] 121)
  have hw : Hid (IntKind.u64.wrap (-IntKind.u64.wrap n) = (v : Int)) := int10nw v n h2 hv.out hn
  clear hT h2
  go_enter Tryz.func171, Tryz.ntmps171
  go_wp2_with (go_at_call 184; rw [hw.out]; (with_reducible refine HS.out.mono ?_); rintro r w2 ⟨za, zb, zc, zd, zf, zg, rfl, hS, g2⟩; have G2 := ((((Gr.refl w).alloc (.cells #[.bool false, .slice none 0 0, .int .i64 0] 121)).alloc (.cells #[.int .u64 (v : Int)] 91)).trans g2).alloc (.cells #[.bool za, .slice zb zc zd, .int .i64 zf] 121); have kb2 := ((Gr.refl w2).alloc (.cells #[.bool za, .slice zb zc zd, .int .i64 zf] 121)).keepH (g2.keepH (((Gr.refl _).alloc (.cells #[.int .u64 (v : Int)] 91)).keepH kb0.out)); obtain ⟨t0, t1, t2, u0, u1, u2⟩ := Out3.of kb2)
  refine bodyPost_ret (v := .agg #[.bool za, .slice zb zc zd, .int .i64 zf]) ?_ rfl ⟨za, zb, zc, zd, zf, zg, rfl, (hS.out.gr ((Gr.refl w2).alloc _)).set3 kb2 _ _ _, ((G2.setCell (p := ⟨w.heap.size, 0, none⟩) (Nat.le_refl _) _).setCell (p := ⟨w.heap.size, 1, none⟩) (Nat.le_refl _) _).setCell (p := ⟨w.heap.size, 2, none⟩) (Nat.le_refl _) _⟩
  simp [results, Tryz.results171, go_sem, t0, t1, t2]
theorem int10pw (v : Nat) (n : Int) (h2 : v ≤ 9223372036854775808) (hv : n = (v : Int)) : IntKind.u64.wrap n = (v : Int) := by
  simp only [IntKind.wrap_u64]
  omega
set_option maxHeartbeats 1600000 in
theorem int10p (v : Nat) (n : Int) (w : World) (hn : ¬ n < 0) (hv : Hid (n = (v : Int))) (h2 : v ≤ 9223372036854775808) (hT : TabAt 2 Lib.deBruijn64tab w) :
    Calls Tryz.prog 171 #[.int .i64 n] w fun r w' => ∃ a b c d f g, r = .returned (.agg #[.bool a, .slice b c d, .int .i64 f]) ∧ Hid (SettledN w.heap.size w' (.returned (.tuple #[.agg #[.bool a, .slice b c d, .int .i64 f], .int .i64 g])) false v 0) ∧ Gr w w' := by
  have HS := settle1 false v 0 w (.cells #[.bool false, .slice none 0 0, .int .i64 0] 121) (by omega) hT (by omega) (by omega)
  have kb0 : Hid _ := first_block w (.cells #[.bool false, .slice none 0 0, .int .i64 0] 121)
  have hw : Hid (IntKind.u64.wrap n = (v : Int)) := int10pw v n h2 hv.out
  clear hT h2
  go_enter Tryz.func171, Tryz.ntmps171
  go_wp2_with (go_at_call 184; rw [hw.out]; (with_reducible refine HS.out.mono ?_); rintro r w2 ⟨za, zb, zc, zd, zf, zg, rfl, hS, g2⟩; have G2 := ((((Gr.refl w).alloc (.cells #[.bool false, .slice none 0 0, .int .i64 0] 121)).alloc (.cells #[.int .u64 (v : Int)] 91)).trans g2).alloc (.cells #[.bool za, .slice zb zc zd, .int .i64 zf] 121); have kb2 := ((Gr.refl w2).alloc (.cells #[.bool za, .slice zb zc zd, .int .i64 zf] 121)).keepH (g2.keepH (((Gr.refl _).alloc (.cells #[.int .u64 (v : Int)] 91)).keepH kb0.out)); obtain ⟨t0, t1, t2, u0, u1, u2⟩ := Out3.of kb2)
  refine bodyPost_ret (v := .agg #[.bool za, .slice zb zc zd, .int .i64 zf]) ?_ rfl ⟨za, zb, zc, zd, zf, zg, rfl, (hS.out.gr ((Gr.refl w2).alloc _)).set3 kb2 _ _ _, ((G2.setCell (p := ⟨w.heap.size, 0, none⟩) (Nat.le_refl _) _).setCell (p := ⟨w.heap.size, 1, none⟩) (Nat.le_refl _) _).setCell (p := ⟨w.heap.size, 2, none⟩) (Nat.le_refl _) _⟩
  simp [results, Tryz.results171, go_sem, t0, t1, t2]
end Go.Proofs.YtlhpkflknfmjcaaGreatDoor.Fl
