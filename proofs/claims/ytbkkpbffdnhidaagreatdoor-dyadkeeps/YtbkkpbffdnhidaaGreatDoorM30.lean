import Derived.Test.YtbkkpbffdnhidaaGreatDoorM12
import Derived.Test.YtbkkpbffdnhidaaGreatDoorM29
import Derived.Deep.DeepCutAuto
namespace Go.Proofs.YtbkkpbffdnhidaaGreatDoor
open Go.RowKit
set_option linter.unusedVariables false

/-! CUT -/
set_option maxHeartbeats 1600000 in
theorem cut_zn (s up : Bool) (ad : Option Addr) (n cap x : Nat) (e last : Int) (w : World) (dx : DyAt w s ad 0 cap e x) (hT : TabAt 1 Lib.deBruijn64tab w) (l1 : -1048576 ≤ last) (l2 : last ≤ 1048576) :
    Calls Tryz.prog 14 #[.agg #[.bool s, .slice ad 0 cap, .int .i64 e], .int .i64 last, .bool up] w fun r w' => SettledN w.heap.size w' r s x e ∧ Gr w w' := by
  have b1 := dx.le
  have e1 := dx.low
  have e2 := dx.high
  have R := dx.r26
  have H36 : Hid (∀ w1, Calls Tryz.prog 46 #[.int .i64 last] w1 fun r w' => r = .returned (.bool true) ∧ w' = w1) := fun w1 => by
    have := rightExp36 last w1
    rw [show decide (-1048576 ≤ last ∧ last ≤ 1048576) = true by simp; omega] at this
    exact this
  have HL : Hid (Lim w ad 0 cap 18446744073709551616 x) := dx.lim
  have S35 : Hid (∀ a5 n5 c5 w1, Lim w1 a5 n5 c5 18446744073709551616 x → n5 ≤ 1099511627776 → Gr w w1 → Calls Tryz.prog 45 #[.agg #[.bool s, .slice a5 n5 c5, .int .i64 e]] w1 fun r w' => ∃ a b c d f' g', r = .returned (.tuple #[.agg #[.bool a, .slice b c d, .int .i64 f'], .int .i64 g']) ∧ Hid (SettledN w.heap.size w' r s x e) ∧ Gr w1 w') := fun a5 n5 c5 w1 h5 hn g => by
    obtain ⟨xs, rx, dx⟩ := h5
    refine (settle35n s a5 n5 c5 x e xs w1 rx dx.2.1 dx.1 hn (tab_gr hT g) (by omega) (by omega)).mono ?_
    rintro r w' ⟨h1, h2⟩
    obtain ⟨a, b, c, d, f, g', hr⟩ := h1.form
    exact ⟨a, b, c, d, f, g', hr, h1.low g.size, h2⟩
  clear dx hT
  have TB : Hid _ := two_blocks w (.bool s) (.slice ad 0 cap) (.int .i64 e) (.bool false) (.slice none 0 0) (.int .i64 0) _ rfl
  have kb0 : Hid _ := second_block w (.cells #[.bool s, .slice ad 0 cap, .int .i64 e] 24) (.cells #[.bool false, .slice none 0 0, .int .i64 0] 24)
  go_enter Tryz.func14, Tryz.ntmps14
  go_wp2_with (first | (go_at_call 44; (with_reducible refine (R.out _ (gr2 _ _)).mono ?_); rintro r w1 ⟨rfl, g1⟩; have k := keep6 g1 TB.out; have k0 := k.1.1; have k1 := k.1.2.1; have k2 := k.1.2.2.1; have kb := g1.keepH kb0.out) | (go_at_call 46; (with_reducible refine (H36.out _).mono ?_); rintro r w2 ⟨rfl, rfl⟩) | (go_at_call 45; (with_reducible refine (S35.out _ _ _ _ (HL.out.gr k.2) (by omega) k.2).mono ?_); rintro r w7 ⟨a, b, c, d, f', g', rfl, hS, g7⟩; have kb7 := g7.keepH kb; obtain ⟨t0, t1, t2, u0, u1, u2⟩ := Out3.of kb7; have GG := k.2.trans g7))
  refine bodyPost_ret (v := .tuple #[.agg #[.bool a, .slice b c d, .int .i64 f'], .int .i64 g']) ?_ rfl ⟨hS.out.set3 kb7 _ _ _, ?_⟩
  · simp [results, Tryz.results14, go_sem, t0, t1, t2]
  · exact ((GG.setCell (p := ⟨w.heap.size + 1, 0, none⟩) (Nat.le_succ _) _).setCell (p := ⟨w.heap.size + 1, 1, none⟩) (Nat.le_succ _) _).setCell (p := ⟨w.heap.size + 1, 2, none⟩) (Nat.le_succ _) _
theorem cut_z (s up : Bool) (ad : Option Addr) (n cap x : Nat) (e last : Int) (w : World) (dx : DyAt w s ad 0 cap e x) (hT : TabAt 1 Lib.deBruijn64tab w) (l1 : -1048576 ≤ last) (l2 : last ≤ 1048576) :
    Calls Tryz.prog 14 #[.agg #[.bool s, .slice ad 0 cap, .int .i64 e], .int .i64 last, .bool up] w fun r w' => Settled w' r s x e ∧ Gr w w' :=
  (cut_zn s up ad n cap x e last w dx hT l1 l2).mono (by rintro r w' ⟨h1, h2⟩; exact ⟨h1.told, h2⟩)
set_option maxHeartbeats 1600000 in
theorem cut_fn (s up : Bool) (ad : Option Addr) (n cap x : Nat) (e last : Int) (w : World) (dx : DyAt w s ad (n + 1) cap e x) (hT : TabAt 1 Lib.deBruijn64tab w) (l1 : -1048576 ≤ last) (l2 : last ≤ 1048576) (hf : last ≤ e) :
    Calls Tryz.prog 14 #[.agg #[.bool s, .slice ad (n + 1) cap, .int .i64 e], .int .i64 last, .bool up] w fun r w' => SettledN w.heap.size w' r s x e ∧ Gr w w' := by
  have b1 := dx.le
  have e1 := dx.low
  have e2 := dx.high
  have R := dx.r26
  have H36 : Hid (∀ w1, Calls Tryz.prog 46 #[.int .i64 last] w1 fun r w' => r = .returned (.bool true) ∧ w' = w1) := fun w1 => by
    have := rightExp36 last w1
    rw [show decide (-1048576 ≤ last ∧ last ≤ 1048576) = true by simp; omega] at this
    exact this
  have HL : Hid (Lim w ad (n + 1) cap 18446744073709551616 x) := dx.lim
  have S35 : Hid (∀ a5 n5 c5 w1, Lim w1 a5 n5 c5 18446744073709551616 x → n5 ≤ 1099511627776 → Gr w w1 → Calls Tryz.prog 45 #[.agg #[.bool s, .slice a5 n5 c5, .int .i64 e]] w1 fun r w' => ∃ a b c d f' g', r = .returned (.tuple #[.agg #[.bool a, .slice b c d, .int .i64 f'], .int .i64 g']) ∧ Hid (SettledN w.heap.size w' r s x e) ∧ Gr w1 w') := fun a5 n5 c5 w1 h5 hn g => by
    obtain ⟨xs, rx, dx⟩ := h5
    refine (settle35n s a5 n5 c5 x e xs w1 rx dx.2.1 dx.1 hn (tab_gr hT g) (by omega) (by omega)).mono ?_
    rintro r w' ⟨h1, h2⟩
    obtain ⟨a, b, c, d, f, g', hr⟩ := h1.form
    exact ⟨a, b, c, d, f, g', hr, h1.low g.size, h2⟩
  clear dx hT
  have TB : Hid _ := two_blocks w (.bool s) (.slice ad (n + 1) cap) (.int .i64 e) (.bool false) (.slice none 0 0) (.int .i64 0) _ rfl
  have kb0 : Hid _ := second_block w (.cells #[.bool s, .slice ad (n + 1) cap, .int .i64 e] 24) (.cells #[.bool false, .slice none 0 0, .int .i64 0] 24)
  have z1 : ((n : Int) + 1 == 0) = false := by simp; omega
  have z2 : e ≥ last := by omega
  go_enter Tryz.func14, Tryz.ntmps14
  go_wp2_with (first | (go_at_call 44; (with_reducible refine (R.out _ (gr2 _ _)).mono ?_); rintro r w1 ⟨rfl, g1⟩; have k := keep6 g1 TB.out; have k0 := k.1.1; have k1 := k.1.2.1; have k2 := k.1.2.2.1; have kb := g1.keepH kb0.out) | (go_at_call 46; (with_reducible refine (H36.out _).mono ?_); rintro r w2 ⟨rfl, rfl⟩) | (go_at_call 45; (with_reducible refine (S35.out _ _ _ _ (HL.out.gr k.2) (by omega) k.2).mono ?_); rintro r w7 ⟨a, b, c, d, f', g', rfl, hS, g7⟩; have kb7 := g7.keepH kb; obtain ⟨t0, t1, t2, u0, u1, u2⟩ := Out3.of kb7; have GG := k.2.trans g7))
  refine bodyPost_ret (v := .tuple #[.agg #[.bool a, .slice b c d, .int .i64 f'], .int .i64 g']) ?_ rfl ⟨hS.out.set3 kb7 _ _ _, ?_⟩
  · simp [results, Tryz.results14, go_sem, t0, t1, t2]
  · exact ((GG.setCell (p := ⟨w.heap.size + 1, 0, none⟩) (Nat.le_succ _) _).setCell (p := ⟨w.heap.size + 1, 1, none⟩) (Nat.le_succ _) _).setCell (p := ⟨w.heap.size + 1, 2, none⟩) (Nat.le_succ _) _
theorem cut_f (s up : Bool) (ad : Option Addr) (n cap x : Nat) (e last : Int) (w : World) (dx : DyAt w s ad (n + 1) cap e x) (hT : TabAt 1 Lib.deBruijn64tab w) (l1 : -1048576 ≤ last) (l2 : last ≤ 1048576) (hf : last ≤ e) :
    Calls Tryz.prog 14 #[.agg #[.bool s, .slice ad (n + 1) cap, .int .i64 e], .int .i64 last, .bool up] w fun r w' => Settled w' r s x e ∧ Gr w w' :=
  (cut_fn s up ad n cap x e last w dx hT l1 l2 hf).mono (by rintro r w' ⟨h1, h2⟩; exact ⟨h1.told, h2⟩)
set_option maxHeartbeats 1600000 in
theorem cut_pn (s up : Bool) (hus : (up == s) = false) (ad : Option Addr) (n cap x t : Nat) (e last : Int) (w : World) (dx : DyAt w s ad (n + 1) cap e x) (hT : TabAt 1 Lib.deBruijn64tab w) (l1 : -1048576 ≤ last) (l2 : last ≤ 1048576) (hel : e < last) (ht : last - e = (t : Int)) :
    Calls Tryz.prog 14 #[.agg #[.bool s, .slice ad (n + 1) cap, .int .i64 e], .int .i64 last, .bool up] w fun r w' => SettledN w.heap.size w' r s (x / 2 ^ t + 1) last ∧ Gr w w' := by
  have b1 := dx.le
  have e1 := dx.low
  have e2 := dx.high
  have R := dx.r26
  have H36 : Hid (∀ w1, Calls Tryz.prog 46 #[.int .i64 last] w1 fun r w' => r = .returned (.bool true) ∧ w' = w1) := fun w1 => by
    have := rightExp36 last w1
    rw [show decide (-1048576 ≤ last ∧ last ≤ 1048576) = true by simp; omega] at this
    exact this
  have HL : Hid (Lim w ad (n + 1) cap 18446744073709551616 x) := dx.lim
  have H37 : Hid (∀ w1, Gr w w1 → Calls Tryz.prog 47 #[.slice ad (n + 1) cap, .int .i64 (last - e)] w1 fun r w' => ∃ ad' n' cap', r = .returned (.slice ad' n' cap') ∧ Lim w' ad' n' cap' 18446744073709551616 (x / 2 ^ t) ∧ n' ≤ n + 1 ∧ Gr w1 w') := fun w1 g => by
    rw [ht]
    refine (shiftDown37 ad (n + 1) cap x t w1 (HL.out.gr g) (by omega) (by omega)).mono ?_
    rintro r w' ⟨a, n', c, rfl, h2, h3, h4⟩
    exact ⟨a, n', c, rfl, h3, h2, h4⟩
  have H38 : Hid (∀ a5 n5 c5 w1, Lim w1 a5 n5 c5 18446744073709551616 (x / 2 ^ t) → n5 ≤ n + 1 → Calls Tryz.prog 48 #[.slice a5 n5 c5, .slice (some ⟨w1.heap.size, 0, none⟩) 1 1] (w1.alloc (.cells #[.int .u64 1] 49)) fun r w' => ∃ ad' n' cap', r = .returned (.slice ad' n' cap') ∧ Lim w' ad' n' cap' 18446744073709551616 (x / 2 ^ t + 1) ∧ n' ≤ 1099511627776 ∧ Gr w1 w') := fun a5 n5 c5 w1 h5 hn => by
    have ga : Gr w1 (w1.alloc (.cells #[.int .u64 1] 49)) := (Gr.refl w1).alloc _
    refine (plus38 a5 _ n5 1 c5 1 (x / 2 ^ t) 1 _ (h5.gr ga) (limb_alloc w1 1 (by omega) (by omega)) (by omega) (by omega)).mono ?_
    rintro r w' ⟨a, n', c, rfl, h2, h3, h4⟩
    exact ⟨a, n', c, rfl, h3, by omega, ga.trans h4⟩
  have S35 : Hid (∀ a5 n5 c5 w1, Lim w1 a5 n5 c5 18446744073709551616 (x / 2 ^ t + 1) → n5 ≤ 1099511627776 → Gr w w1 → Calls Tryz.prog 45 #[.agg #[.bool s, .slice a5 n5 c5, .int .i64 last]] w1 fun r w' => ∃ a b c d f' g', r = .returned (.tuple #[.agg #[.bool a, .slice b c d, .int .i64 f'], .int .i64 g']) ∧ Hid (SettledN w.heap.size w' r s (x / 2 ^ t + 1) last) ∧ Gr w1 w') := fun a5 n5 c5 w1 h5 hn g => by
    obtain ⟨xs, rx, dx⟩ := h5
    refine (settle35n s a5 n5 c5 (x / 2 ^ t + 1) last xs w1 rx dx.2.1 dx.1 hn (tab_gr hT g) (by omega) (by omega)).mono ?_
    rintro r w' ⟨h1, h2⟩
    obtain ⟨a, b, c, d, f, g', hr⟩ := h1.form
    exact ⟨a, b, c, d, f, g', hr, h1.low g.size, h2⟩
  clear dx hT ht HL
  generalize (x / 2 ^ t + 1) = M at *
  have TB : Hid _ := two_blocks w (.bool s) (.slice ad (n + 1) cap) (.int .i64 e) (.bool false) (.slice none 0 0) (.int .i64 0) _ rfl
  have kb0 : Hid _ := second_block w (.cells #[.bool s, .slice ad (n + 1) cap, .int .i64 e] 24) (.cells #[.bool false, .slice none 0 0, .int .i64 0] 24)
  have z1 : ((n : Int) + 1 == 0) = false := by simp; omega
  have z2 : ¬ e ≥ last := by omega
  go_enter Tryz.func14, Tryz.ntmps14
  go_wp2_with (first | (go_at_call 44; (with_reducible refine (R.out _ (gr2 _ _)).mono ?_); rintro r w1 ⟨rfl, g1⟩; have k := keep6 g1 TB.out; have k0 := k.1.1; have k1 := k.1.2.1; have k2 := k.1.2.2.1; have kb := g1.keepH kb0.out) | (go_at_call 46; (with_reducible refine (H36.out _).mono ?_); rintro r w2 ⟨rfl, rfl⟩) | (go_at_call 47; (with_reducible refine (H37.out _ k.2).mono ?_); rintro r w3 ⟨a3, n3, c3, rfl, hl3, hn3, g3⟩; have j0 := g3.keep k0; have kb3 := g3.keepH kb; clear k0 k1 k2) | (go_at_call 48; (with_reducible refine (H38.out _ _ _ _ hl3 hn3).mono ?_); rintro r w5 ⟨a5, n5, c5, rfl, hl5, hn5, g5⟩; have m0 := g5.keep j0; have kb5 := g5.keepH kb3; clear j0) | (go_at_call 45; (with_reducible refine (S35.out _ _ _ _ hl5 hn5 ((k.2.trans g3).trans g5)).mono ?_); rintro r w7 ⟨a, b, c, d, f', g', rfl, hS, g7⟩; have kb7 := g7.keepH kb5; obtain ⟨t0, t1, t2, u0, u1, u2⟩ := Out3.of kb7; have GG := ((k.2.trans g3).trans g5).trans g7))
  refine bodyPost_ret (v := .tuple #[.agg #[.bool a, .slice b c d, .int .i64 f'], .int .i64 g']) ?_ rfl ⟨hS.out.set3 kb7 _ _ _, ?_⟩
  · simp [results, Tryz.results14, go_sem, t0, t1, t2]
  · exact ((GG.setCell (p := ⟨w.heap.size + 1, 0, none⟩) (Nat.le_succ _) _).setCell (p := ⟨w.heap.size + 1, 1, none⟩) (Nat.le_succ _) _).setCell (p := ⟨w.heap.size + 1, 2, none⟩) (Nat.le_succ _) _
theorem cut_p (s up : Bool) (hus : (up == s) = false) (ad : Option Addr) (n cap x t : Nat) (e last : Int) (w : World) (dx : DyAt w s ad (n + 1) cap e x) (hT : TabAt 1 Lib.deBruijn64tab w) (l1 : -1048576 ≤ last) (l2 : last ≤ 1048576) (hel : e < last) (ht : last - e = (t : Int)) :
    Calls Tryz.prog 14 #[.agg #[.bool s, .slice ad (n + 1) cap, .int .i64 e], .int .i64 last, .bool up] w fun r w' => Settled w' r s (x / 2 ^ t + 1) last ∧ Gr w w' :=
  (cut_pn s up hus ad n cap x t e last w dx hT l1 l2 hel ht).mono (by rintro r w' ⟨h1, h2⟩; exact ⟨h1.told, h2⟩)
set_option maxHeartbeats 1600000 in
theorem cut_mn (s up : Bool) (hus : (up == s) = true) (ad : Option Addr) (n cap x t : Nat) (e last : Int) (w : World) (dx : DyAt w s ad (n + 1) cap e x) (hT : TabAt 1 Lib.deBruijn64tab w) (l1 : -1048576 ≤ last) (l2 : last ≤ 1048576) (hel : e < last) (ht : last - e = (t : Int)) :
    Calls Tryz.prog 14 #[.agg #[.bool s, .slice ad (n + 1) cap, .int .i64 e], .int .i64 last, .bool up] w fun r w' => SettledN w.heap.size w' r s (x / 2 ^ t) last ∧ Gr w w' := by
  have b1 := dx.le
  have e1 := dx.low
  have e2 := dx.high
  have R := dx.r26
  have H36 : Hid (∀ w1, Calls Tryz.prog 46 #[.int .i64 last] w1 fun r w' => r = .returned (.bool true) ∧ w' = w1) := fun w1 => by
    have := rightExp36 last w1
    rw [show decide (-1048576 ≤ last ∧ last ≤ 1048576) = true by simp; omega] at this
    exact this
  have HL : Hid (Lim w ad (n + 1) cap 18446744073709551616 x) := dx.lim
  have H37 : Hid (∀ w1, Gr w w1 → Calls Tryz.prog 47 #[.slice ad (n + 1) cap, .int .i64 (last - e)] w1 fun r w' => ∃ ad' n' cap', r = .returned (.slice ad' n' cap') ∧ Lim w' ad' n' cap' 18446744073709551616 (x / 2 ^ t) ∧ n' ≤ n + 1 ∧ Gr w1 w') := fun w1 g => by
    rw [ht]
    refine (shiftDown37 ad (n + 1) cap x t w1 (HL.out.gr g) (by omega) (by omega)).mono ?_
    rintro r w' ⟨a, n', c, rfl, h2, h3, h4⟩
    exact ⟨a, n', c, rfl, h3, h2, h4⟩
  have S35 : Hid (∀ a5 n5 c5 w1, Lim w1 a5 n5 c5 18446744073709551616 (x / 2 ^ t) → n5 ≤ 1099511627776 → Gr w w1 → Calls Tryz.prog 45 #[.agg #[.bool s, .slice a5 n5 c5, .int .i64 last]] w1 fun r w' => ∃ a b c d f' g', r = .returned (.tuple #[.agg #[.bool a, .slice b c d, .int .i64 f'], .int .i64 g']) ∧ Hid (SettledN w.heap.size w' r s (x / 2 ^ t) last) ∧ Gr w1 w') := fun a5 n5 c5 w1 h5 hn g => by
    obtain ⟨xs, rx, dx⟩ := h5
    refine (settle35n s a5 n5 c5 (x / 2 ^ t) last xs w1 rx dx.2.1 dx.1 hn (tab_gr hT g) (by omega) (by omega)).mono ?_
    rintro r w' ⟨h1, h2⟩
    obtain ⟨a, b, c, d, f, g', hr⟩ := h1.form
    exact ⟨a, b, c, d, f, g', hr, h1.low g.size, h2⟩
  clear dx hT ht HL
  generalize (x / 2 ^ t) = M at *
  have TB : Hid _ := two_blocks w (.bool s) (.slice ad (n + 1) cap) (.int .i64 e) (.bool false) (.slice none 0 0) (.int .i64 0) _ rfl
  have kb0 : Hid _ := second_block w (.cells #[.bool s, .slice ad (n + 1) cap, .int .i64 e] 24) (.cells #[.bool false, .slice none 0 0, .int .i64 0] 24)
  have z1 : ((n : Int) + 1 == 0) = false := by simp; omega
  have z2 : ¬ e ≥ last := by omega
  go_enter Tryz.func14, Tryz.ntmps14
  go_wp2_with (first | (go_at_call 44; (with_reducible refine (R.out _ (gr2 _ _)).mono ?_); rintro r w1 ⟨rfl, g1⟩; have k := keep6 g1 TB.out; have k0 := k.1.1; have k1 := k.1.2.1; have k2 := k.1.2.2.1; have kb := g1.keepH kb0.out) | (go_at_call 46; (with_reducible refine (H36.out _).mono ?_); rintro r w2 ⟨rfl, rfl⟩) | (go_at_call 47; (with_reducible refine (H37.out _ k.2).mono ?_); rintro r w3 ⟨a3, n3, c3, rfl, hl3, hn3, g3⟩; have j0 := g3.keep k0; have kb3 := g3.keepH kb; clear k0 k1 k2) | (go_at_call 45; (with_reducible refine (S35.out _ _ _ _ hl3 (by omega) (k.2.trans g3)).mono ?_); rintro r w7 ⟨a, b, c, d, f', g', rfl, hS, g7⟩; have kb7 := g7.keepH kb3; obtain ⟨t0, t1, t2, u0, u1, u2⟩ := Out3.of kb7; have GG := (k.2.trans g3).trans g7))
  refine bodyPost_ret (v := .tuple #[.agg #[.bool a, .slice b c d, .int .i64 f'], .int .i64 g']) ?_ rfl ⟨hS.out.set3 kb7 _ _ _, ?_⟩
  · simp [results, Tryz.results14, go_sem, t0, t1, t2]
  · exact ((GG.setCell (p := ⟨w.heap.size + 1, 0, none⟩) (Nat.le_succ _) _).setCell (p := ⟨w.heap.size + 1, 1, none⟩) (Nat.le_succ _) _).setCell (p := ⟨w.heap.size + 1, 2, none⟩) (Nat.le_succ _) _
theorem cut_m (s up : Bool) (hus : (up == s) = true) (ad : Option Addr) (n cap x t : Nat) (e last : Int) (w : World) (dx : DyAt w s ad (n + 1) cap e x) (hT : TabAt 1 Lib.deBruijn64tab w) (l1 : -1048576 ≤ last) (l2 : last ≤ 1048576) (hel : e < last) (ht : last - e = (t : Int)) :
    Calls Tryz.prog 14 #[.agg #[.bool s, .slice ad (n + 1) cap, .int .i64 e], .int .i64 last, .bool up] w fun r w' => Settled w' r s (x / 2 ^ t) last ∧ Gr w w' :=
  (cut_mn s up hus ad n cap x t e last w dx hT l1 l2 hel ht).mono (by rintro r w' ⟨h1, h2⟩; exact ⟨h1.told, h2⟩)
end Go.Proofs.YtbkkpbffdnhidaaGreatDoor
namespace Go.Proofs.YtbkkpbffdnhidaaGreatDoor
open Go.RowKit
set_option linter.unusedVariables false

/-! WHAT IS TOLD IS NEW, RIGHT OR NOT -/
set_option maxRecDepth 10000 in
set_option maxHeartbeats 1600000 in
theorem cutA (s up : Bool) (ad : Option Addr) (n cap : Nat) (e last : Int) (w : World) (R : Hid (∀ w1, Gr w w1 → Calls Tryz.prog 44 #[.agg #[.bool s, .slice ad n cap, .int .i64 e]] w1 fun r w' => r = .returned (.bool false) ∧ Gr w1 w')) :
    Calls Tryz.prog 14 #[.agg #[.bool s, .slice ad n cap, .int .i64 e], .int .i64 last, .bool up] w fun r w' => r = .returned (.tuple #[zeroD, .int .i64 2]) ∧ Gr w w' := by
  have TB : Hid _ := two_blocks w (.bool s) (.slice ad n cap) (.int .i64 e) (.bool false) (.slice none 0 0) (.int .i64 0) _ rfl
  have kb0 : Hid _ := second_block w (.cells #[.bool s, .slice ad n cap, .int .i64 e] 24) (.cells #[.bool false, .slice none 0 0, .int .i64 0] 24)
  go_enter Tryz.func14, Tryz.ntmps14
  go_wp2_with (first | (go_at_call 44; (with_reducible refine (R.out _ (gr2 _ _)).mono ?_); rintro r w1 ⟨rfl, g1⟩; have k := keep6 g1 TB.out; have k0 := k.1.1; have k1 := k.1.2.1; have k2 := k.1.2.2.1; have kb := g1.keepH kb0.out; obtain ⟨t0, t1, t2, u0, u1, u2⟩ := Out3.of kb))
  refine bodyPost_ret (v := .tuple #[zeroD, .int .i64 2]) ?_ rfl ⟨rfl, (((k.2).setCell (p := ⟨w.heap.size + 1, 0, none⟩) (Nat.le_succ _) _).setCell (p := ⟨w.heap.size + 1, 1, none⟩) (Nat.le_succ _) _).setCell (p := ⟨w.heap.size + 1, 2, none⟩) (Nat.le_succ _) _⟩
  simp [results, Tryz.results14, go_sem, t0, t1, t2, zeroD]

theorem SettledN.any {B : Nat} {w w' : World} {r : Ending} {s : Bool} {x : Nat} {e : Int} (h : SettledN B w' r s x e ∧ Gr w w') : NewR B w' r ∧ Gr w w' := ⟨h.1.new, h.2⟩
theorem addN (s t : Bool) (ad1 ad2 : Option Addr) (n1 n2 c1 c2 : Nat) (e f : Int) (x y : Nat) (w : World) (dx : DyAt w s ad1 n1 c1 e x) (dy : DyAt w t ad2 n2 c2 f y) (hT : TabAt 1 Lib.deBruijn64tab w) :
    Calls Tryz.prog 9 #[.agg #[.bool s, .slice ad1 n1 c1, .int .i64 e], .agg #[.bool t, .slice ad2 n2 c2, .int .i64 f]] w fun r w' => (SetV w' r (sv KK s x e + sv KK t y f) ∧ NewR w.heap.size w' r) ∧ Gr w w' := by
  have hkk := KK_eq
  have e1 := dx.low
  have f1 := dy.low
  by_cases hfar : 0 < x ∧ 0 < y ∧ 262144 < max e f - min e f
  · obtain ⟨x0, y0, hef⟩ := hfar
    obtain ⟨k1, rfl⟩ := lim_pos dx.lim x0
    obtain ⟨k2, rfl⟩ := lim_pos dy.lim y0
    refine (toldE9 s t ad1 ad2 (k1 + 1) (k2 + 1) c1 c2 e f w dx.r26 dy.r26 (fun w1 g => sum_far s t ad1 ad2 k1 k2 c1 c2 e f w1 dx.low dx.high dy.low dy.high hef)).mono ?_
    rintro r w' ⟨rfl, g⟩
    exact ⟨⟨far_setv w' s t x y e f dx.odd dy.odd x0 y0 dx.lt dy.lt (by omega) (by omega) hef, NewR.zero _ _ _⟩, g⟩
  · obtain ⟨neg, m, g, hs, g1, g2, C⟩ := sum29u s t ad1 ad2 n1 n2 c1 c2 x y e f w dx.lim dy.lim dx.le dy.le dx.low dx.high dy.low dy.high (fun x0 y0 hef => hfar ⟨x0, y0, hef⟩)
    obtain ⟨h0, hw⟩ := hs KK (by omega) (by omega)
    refine (told9n s t neg ad1 ad2 n1 n2 c1 c2 m e f g w hT (by omega) (by omega) dx.r26 dy.r26 C).mono ?_
    rintro r w' ⟨h1, h2⟩
    exact ⟨⟨⟨neg, m, g, h0, hw, h1.told⟩, h1.new⟩, h2⟩
theorem subN (s t : Bool) (ad1 ad2 : Option Addr) (n1 n2 c1 c2 : Nat) (e f : Int) (x y : Nat) (w : World) (dx : DyAt w s ad1 n1 c1 e x) (dy : DyAt w t ad2 n2 c2 f y) (hT : TabAt 1 Lib.deBruijn64tab w) :
    Calls Tryz.prog 10 #[.agg #[.bool s, .slice ad1 n1 c1, .int .i64 e], .agg #[.bool t, .slice ad2 n2 c2, .int .i64 f]] w fun r w' => NewR w.heap.size w' r ∧ Gr w w' := by
  have hkk := KK_eq
  have e1 := dx.low
  have f1 := dy.low
  by_cases hfar : 0 < x ∧ 0 < y ∧ 262144 < max e f - min e f
  · obtain ⟨x0, y0, hef⟩ := hfar
    obtain ⟨k1, rfl⟩ := lim_pos dx.lim x0
    obtain ⟨k2, rfl⟩ := lim_pos dy.lim y0
    refine (toldE11 s t ad1 ad2 (k1 + 1) (k2 + 1) c1 c2 e f w dx.r26 dy.r26 (fun w1 g => sum_far s (!t) ad1 ad2 k1 k2 c1 c2 e f w1 dx.low dx.high dy.low dy.high hef)).mono ?_
    rintro r w' ⟨rfl, g⟩
    exact ⟨NewR.zero _ _ _, g⟩
  · obtain ⟨neg, m, g, hs, g1, g2, C⟩ := sum29u s (!t) ad1 ad2 n1 n2 c1 c2 x y e f w dx.lim dy.lim dx.le dy.le dx.low dx.high dy.low dy.high (fun x0 y0 hef => hfar ⟨x0, y0, hef⟩)
    exact (told11n s t neg ad1 ad2 n1 n2 c1 c2 m e f g w hT (by omega) (by omega) dx.r26 dy.r26 C).mono (fun r w' h => SettledN.any h)
theorem mulN (s t : Bool) (ad1 ad2 : Option Addr) (n1 n2 c1 c2 : Nat) (e f : Int) (x y : Nat) (w : World) (dx : DyAt w s ad1 n1 c1 e x) (dy : DyAt w t ad2 n2 c2 f y) (hT : TabAt 1 Lib.deBruijn64tab w) :
    Calls Tryz.prog 11 #[.agg #[.bool s, .slice ad1 n1 c1, .int .i64 e], .agg #[.bool t, .slice ad2 n2 c2, .int .i64 f]] w fun r w' => NewR w.heap.size w' r ∧ Gr w w' := by
  by_cases hn : n1 + n2 ≤ 4097
  · exact (told12n s t ad1 ad2 n1 n2 c1 c2 x y e f w hT dx.r26 dy.r26 dx.lim dy.lim hn dx.low dx.high dy.low dy.high).mono (fun r w' h => SettledN.any h)
  · refine (mulE s t ad1 ad2 n1 n2 c1 c2 e f w dx.r26 dy.r26 dx.le dy.le (by omega)).mono ?_
    rintro r w' ⟨rfl, g⟩
    exact ⟨NewR.zero _ _ _, g⟩
theorem negN (s : Bool) (ad : Option Addr) (n cap x : Nat) (e : Int) (w : World) (dx : DyAt w s ad n cap e x) (hT : TabAt 1 Lib.deBruijn64tab w) :
    Calls Tryz.prog 12 #[.agg #[.bool s, .slice ad n cap, .int .i64 e]] w fun r w' => (SetV w' r (sv KK (!s) x e) ∧ NewR w.heap.size w' r) ∧ Gr w w' := by
  have hkk := KK_eq
  obtain ⟨xs, h1, h2, h3⟩ := dx.rightD
  have := dx.le
  have := dx.low
  have := dx.high
  refine (neg14n s ad n cap x e xs w h1 h2.2.1 h2.1 (by omega) hT (by omega) (by omega) h3).mono ?_
  rintro r w' ⟨h4, h5⟩
  exact ⟨⟨⟨_, _, _, by omega, rfl, h4.told⟩, h4.new⟩, h5⟩
theorem scaleN (s : Bool) (ad : Option Addr) (n cap x : Nat) (e p : Int) (w : World) (dx : DyAt w s ad n cap e x) (hT : TabAt 1 Lib.deBruijn64tab w) (p1 : -2097152 ≤ p) (p2 : p ≤ 2097152) :
    Calls Tryz.prog 13 #[.agg #[.bool s, .slice ad n cap, .int .i64 e], .int .i64 p] w fun r w' => NewR w.heap.size w' r ∧ Gr w w' := by
  cases n with
  | zero =>
    refine (scale15z s ad 0 cap e p w dx.r26).mono ?_
    rintro r w' ⟨rfl, g⟩
    exact ⟨NewR.zero _ _ _, g⟩
  | succ n => exact (scale15mn s ad n cap x e p w dx hT p1 p2).mono (fun r w' h => SettledN.any h)
theorem cutN (s up : Bool) (ad : Option Addr) (n cap x : Nat) (e last : Int) (w : World) (dx : DyAt w s ad n cap e x) (hT : TabAt 1 Lib.deBruijn64tab w) (l1 : -1048576 ≤ last) (l2 : last ≤ 1048576) :
    Calls Tryz.prog 14 #[.agg #[.bool s, .slice ad n cap, .int .i64 e], .int .i64 last, .bool up] w fun r w' => NewR w.heap.size w' r ∧ Gr w w' := by
  cases n with
  | zero => exact (cut_zn s up ad 0 cap x e last w dx hT l1 l2).mono (fun r w' h => SettledN.any h)
  | succ n =>
    by_cases hf : last ≤ e
    · exact (cut_fn s up ad n cap x e last w dx hT l1 l2 hf).mono (fun r w' h => SettledN.any h)
    · cases hus : (up == s)
      · exact (cut_pn s up hus ad n cap x (last - e).toNat e last w dx hT l1 l2 (by omega) (by omega)).mono (fun r w' h => SettledN.any h)
      · exact (cut_mn s up hus ad n cap x (last - e).toNat e last w dx hT l1 l2 (by omega) (by omega)).mono (fun r w' h => SettledN.any h)
/-- told, in new memory: that sign, size, power and error -/
def ToldN (S : Bool) (X : Nat) (E G : Int) (w1 : World) (r : Ending) (w' : World) : Prop := ∃ ad n cap, r = .returned (.tuple #[.agg #[.bool S, .slice ad n cap, .int .i64 E], .int .i64 G]) ∧ Lim w' ad n cap 18446744073709551616 X ∧ (Fresh w1.heap.size w' ad n cap ∧ n ≤ 4096) ∧ Gr w1 w'
theorem ToldN.of {V : Int} {S : Bool} {X : Nat} {E G : Int} (h : ∀ w r, SetV w r V → ∃ s ad n cap e g, r = .returned (.tuple #[.agg #[.bool s, .slice ad n cap, .int .i64 e], .int .i64 g]) ∧ Ans w s ad n cap e g S X E G) {w1 w' : World} {r : Ending} (hs : (SetV w' r V ∧ NewR w1.heap.size w' r) ∧ Gr w1 w') : ToldN S X E G w1 r w' := by
  obtain ⟨⟨h1, h2⟩, h3⟩ := hs
  obtain ⟨s, ad, n, cap, e, g, rfl, hA⟩ := h _ _ h1
  obtain ⟨rfl, rfl, rfl, hl⟩ := hA
  obtain ⟨a', ad', n', cap', f', g', he, hF⟩ := h2
  simp only [Ending.returned.injEq, Value.tuple.injEq, Array.mk.injEq, List.cons.injEq, Value.agg.injEq, Value.slice.injEq, and_true] at he
  obtain ⟨⟨_, ⟨rfl, rfl, rfl⟩, _⟩, _⟩ := he
  exact ⟨ad, n, cap, rfl, hl, hF, h3⟩
theorem Told.of {V : Int} {S : Bool} {X : Nat} {E G : Int} (h : ∀ w r, SetV w r V → ∃ s ad n cap e g, r = .returned (.tuple #[.agg #[.bool s, .slice ad n cap, .int .i64 e], .int .i64 g]) ∧ Ans w s ad n cap e g S X E G) {w1 w' : World} {r : Ending} (hs : SetV w' r V ∧ Gr w1 w') : Told S X E G w1 r w' := by
  obtain ⟨h1, h3⟩ := hs
  obtain ⟨s, ad, n, cap, e, g, rfl, hA⟩ := h _ _ h1
  obtain ⟨rfl, rfl, rfl, hl⟩ := hA
  exact ⟨ad, n, cap, rfl, hl, h3⟩
theorem ToldN.no {w1 w' : World} {r : Ending} {G : Int} (h : r = .returned (.tuple #[zeroD, .int .i64 G]) ∧ Gr w1 w') : ToldN false 0 0 G w1 r w' := by
  obtain ⟨rfl, hg⟩ := h
  exact ⟨none, 0, 0, rfl, nil_lim _, ⟨Fresh.nil _ _, by omega⟩, hg⟩
theorem Told.no {w1 w' : World} {r : Ending} {G : Int} (h : r = .returned (.tuple #[zeroD, .int .i64 G]) ∧ Gr w1 w') : Told false 0 0 G w1 r w' := by
  obtain ⟨rfl, hg⟩ := h
  exact ⟨none, 0, 0, rfl, nil_lim _, hg⟩
theorem NewR.no {w1 w' : World} {r : Ending} {G : Int} (h : r = .returned (.tuple #[zeroD, .int .i64 G]) ∧ Gr w1 w') : NewR w1.heap.size w' r ∧ Gr w1 w' := by
  obtain ⟨rfl, hg⟩ := h
  exact ⟨NewR.zero _ _ _, hg⟩
/-- a dyad and its twin: the same sign, limbs and power, each in its own memory -/
structure Tw (W w : World) (s : Bool) (ad ad' : Option Addr) (n c c' : Nat) (e : Int) (xs : List Nat) : Prop where
  row : Row W ad n c xs
  row' : Row w ad' n c' xs
  lt : ∀ x ∈ xs, x < 18446744073709551616
theorem add_both (s t : Bool) (ad1 ad1' ad2 ad2' : Option Addr) (n1 n2 c1 c1' c2 c2' : Nat) (e f : Int) (xs ys : List Nat) (W w : World) (r1 : Tw W w s ad1 ad1' n1 c1 c1' e xs) (r2 : Tw W w t ad2 ad2' n2 c2 c2' f ys) (hT : TabAt 1 Lib.deBruijn64tab W) :
    ∃ S X E G, (∀ w1, Gr W w1 → Calls Tryz.prog 9 #[.agg #[.bool s, .slice ad1 n1 c1, .int .i64 e], .agg #[.bool t, .slice ad2 n2 c2, .int .i64 f]] w1 (ToldN S X E G w1)) ∧ (∀ w1, Gr w w1 → Calls Tryz.prog 21 #[.agg #[.bool s, .slice ad1' n1 c1', .int .i64 e], .agg #[.bool t, .slice ad2' n2 c2', .int .i64 f]] w1 (Told S X E G w1)) := by
  by_cases q1 : RightD s xs e
  · by_cases q2 : RightD t ys f
    · have dx := dyAt_of r1.row r1.lt q1
      have dy := dyAt_of r2.row r2.lt q2
      have dx' := dyAt_of r1.row' r1.lt q1
      have dy' := dyAt_of r2.row' r2.lt q2
      obtain ⟨S, X, E, G, h⟩ := setv_ans (sv KK s (nv 18446744073709551616 xs) e + sv KK t (nv 18446744073709551616 ys) f)
      exact ⟨S, X, E, G, fun w1 g => (addN s t ad1 ad2 n1 n2 c1 c2 e f _ _ w1 (dx.gr g) (dy.gr g) (tab_gr hT g)).mono (fun r w' hs => ToldN.of h hs), fun w1 g => (ref7 s t ad1' ad2' n1 n2 c1' c2' e f _ _ w1 (dx'.gr g) (dy'.gr g)).mono (fun r w' hs => Told.of h hs)⟩
    · exact ⟨false, 0, 0, 2, fun w1 g => (op6A2 s t ad1 ad2 n1 n2 c1 c2 e f w1 (r35t s ad1 n1 c1 e xs w1 (r1.row.gr g) r1.lt q1) (r35f t ad2 n2 c2 f ys w1 (r2.row.gr g) r2.lt q2)).mono (fun r w' hs => ToldN.no hs), fun w1 g => (raddA2 s t ad1' ad2' n1 n2 c1' c2' e f w1 (r25t s ad1' n1 c1' e xs w1 (r1.row'.gr g) r1.lt q1) (r25f t ad2' n2 c2' f ys w1 (r2.row'.gr g) r2.lt q2)).mono (fun r w' hs => Told.no hs)⟩
  · exact ⟨false, 0, 0, 2, fun w1 g => (op6A1 s t ad1 ad2 n1 n2 c1 c2 e f w1 (r35f s ad1 n1 c1 e xs w1 (r1.row.gr g) r1.lt q1)).mono (fun r w' hs => ToldN.no hs), fun w1 g => (raddA1 s t ad1' ad2' n1 n2 c1' c2' e f w1 (r25f s ad1' n1 c1' e xs w1 (r1.row'.gr g) r1.lt q1)).mono (fun r w' hs => Told.no hs)⟩
theorem neg_both (s : Bool) (ad ad' : Option Addr) (n c c' : Nat) (e : Int) (xs : List Nat) (W w : World) (r1 : Tw W w s ad ad' n c c' e xs) (hT : TabAt 1 Lib.deBruijn64tab W) :
    ∃ S X E G, (∀ w1, Gr W w1 → Calls Tryz.prog 12 #[.agg #[.bool s, .slice ad n c, .int .i64 e]] w1 (ToldN S X E G w1)) ∧ (∀ w1, Gr w w1 → Calls Tryz.prog 22 #[.agg #[.bool s, .slice ad' n c', .int .i64 e]] w1 (Told S X E G w1)) := by
  by_cases q1 : RightD s xs e
  · have dx := dyAt_of r1.row r1.lt q1
    have dx' := dyAt_of r1.row' r1.lt q1
    obtain ⟨S, X, E, G, h⟩ := setv_ans (sv KK (!s) (nv 18446744073709551616 xs) e)
    exact ⟨S, X, E, G, fun w1 g => (negN s ad n c _ e w1 (dx.gr g) (tab_gr hT g)).mono (fun r w' hs => ToldN.of h hs), fun w1 g => (rneg14 s ad' n c' _ e w1 (dx'.gr g)).mono (fun r w' hs => Told.of h hs)⟩
  · exact ⟨false, 0, 0, 2, fun w1 g => (neg13A s ad n c e w1 (r35f s ad n c e xs w1 (r1.row.gr g) r1.lt q1)).mono (fun r w' hs => ToldN.no hs), fun w1 g => (rneg14A s ad' n c' e w1 (r25f s ad' n c' e xs w1 (r1.row'.gr g) r1.lt q1)).mono (fun r w' hs => Told.no hs)⟩
theorem sub_new (s t : Bool) (ad1 ad2 : Option Addr) (n1 n2 c1 c2 : Nat) (e f : Int) (xs ys : List Nat) (w : World) (r1 : Row w ad1 n1 c1 xs) (r2 : Row w ad2 n2 c2 ys) (h1 : ∀ x ∈ xs, x < 18446744073709551616) (h2 : ∀ x ∈ ys, x < 18446744073709551616) (hT : TabAt 1 Lib.deBruijn64tab w) : ∀ w1, Gr w w1 → Calls Tryz.prog 10 #[.agg #[.bool s, .slice ad1 n1 c1, .int .i64 e], .agg #[.bool t, .slice ad2 n2 c2, .int .i64 f]] w1 fun r w' => NewR w1.heap.size w' r ∧ Gr w1 w' := by
  intro w1 g
  by_cases q1 : RightD s xs e
  · by_cases q2 : RightD t ys f
    · exact subN s t ad1 ad2 n1 n2 c1 c2 e f _ _ w1 ((dyAt_of r1 h1 q1).gr g) ((dyAt_of r2 h2 q2).gr g) (tab_gr hT g)
    · exact (op8A2 s t ad1 ad2 n1 n2 c1 c2 e f w1 (r35t s ad1 n1 c1 e xs w1 (r1.gr g) h1 q1) (r35f t ad2 n2 c2 f ys w1 (r2.gr g) h2 q2)).mono (fun r w' hs => NewR.no hs)
  · exact (op8A1 s t ad1 ad2 n1 n2 c1 c2 e f w1 (r35f s ad1 n1 c1 e xs w1 (r1.gr g) h1 q1)).mono (fun r w' hs => NewR.no hs)
theorem mul_new (s t : Bool) (ad1 ad2 : Option Addr) (n1 n2 c1 c2 : Nat) (e f : Int) (xs ys : List Nat) (w : World) (r1 : Row w ad1 n1 c1 xs) (r2 : Row w ad2 n2 c2 ys) (h1 : ∀ x ∈ xs, x < 18446744073709551616) (h2 : ∀ x ∈ ys, x < 18446744073709551616) (hT : TabAt 1 Lib.deBruijn64tab w) : ∀ w1, Gr w w1 → Calls Tryz.prog 11 #[.agg #[.bool s, .slice ad1 n1 c1, .int .i64 e], .agg #[.bool t, .slice ad2 n2 c2, .int .i64 f]] w1 fun r w' => NewR w1.heap.size w' r ∧ Gr w1 w' := by
  intro w1 g
  by_cases q1 : RightD s xs e
  · by_cases q2 : RightD t ys f
    · exact mulN s t ad1 ad2 n1 n2 c1 c2 e f _ _ w1 ((dyAt_of r1 h1 q1).gr g) ((dyAt_of r2 h2 q2).gr g) (tab_gr hT g)
    · exact (op11A2 s t ad1 ad2 n1 n2 c1 c2 e f w1 (r35t s ad1 n1 c1 e xs w1 (r1.gr g) h1 q1) (r35f t ad2 n2 c2 f ys w1 (r2.gr g) h2 q2)).mono (fun r w' hs => NewR.no hs)
  · exact (op11A1 s t ad1 ad2 n1 n2 c1 c2 e f w1 (r35f s ad1 n1 c1 e xs w1 (r1.gr g) h1 q1)).mono (fun r w' hs => NewR.no hs)
theorem scale_new (s : Bool) (ad : Option Addr) (n c : Nat) (e p : Int) (xs : List Nat) (w : World) (r1 : Row w ad n c xs) (h1 : ∀ x ∈ xs, x < 18446744073709551616) (hT : TabAt 1 Lib.deBruijn64tab w) (p1 : -2097152 ≤ p) (p2 : p ≤ 2097152) : ∀ w1, Gr w w1 → Calls Tryz.prog 13 #[.agg #[.bool s, .slice ad n c, .int .i64 e], .int .i64 p] w1 fun r w' => NewR w1.heap.size w' r ∧ Gr w1 w' := by
  intro w1 g
  by_cases q1 : RightD s xs e
  · exact scaleN s ad n c _ e p w1 ((dyAt_of r1 h1 q1).gr g) (tab_gr hT g) p1 p2
  · exact (scale15A s ad n c e p w1 (r35f s ad n c e xs w1 (r1.gr g) h1 q1)).mono (fun r w' hs => NewR.no hs)
theorem cut_new (s up : Bool) (ad : Option Addr) (n c : Nat) (e last : Int) (xs : List Nat) (w : World) (r1 : Row w ad n c xs) (h1 : ∀ x ∈ xs, x < 18446744073709551616) (hT : TabAt 1 Lib.deBruijn64tab w) (l1 : -1048576 ≤ last) (l2 : last ≤ 1048576) : ∀ w1, Gr w w1 → Calls Tryz.prog 14 #[.agg #[.bool s, .slice ad n c, .int .i64 e], .int .i64 last, .bool up] w1 fun r w' => NewR w1.heap.size w' r ∧ Gr w1 w' := by
  intro w1 g
  by_cases q1 : RightD s xs e
  · exact cutN s up ad n c _ e last w1 ((dyAt_of r1 h1 q1).gr g) (tab_gr hT g) l1 l2
  · exact (cutA s up ad n c e last w1 (r35f s ad n c e xs w1 (r1.gr g) h1 q1)).mono (fun r w' hs => NewR.no hs)
theorem cmp_any (s t : Bool) (ad1 ad2 : Option Addr) (n1 n2 c1 c2 : Nat) (e f : Int) (xs ys : List Nat) (w : World) (r1 : Row w ad1 n1 c1 xs) (r2 : Row w ad2 n2 c2 ys) (h1 : ∀ x ∈ xs, x < 18446744073709551616) (h2 : ∀ x ∈ ys, x < 18446744073709551616) : ∀ w1, Gr w w1 → Calls Tryz.prog 16 #[.agg #[.bool s, .slice ad1 n1 c1, .int .i64 e], .agg #[.bool t, .slice ad2 n2 c2, .int .i64 f]] w1 fun r w' => (∃ v, r = .returned v) ∧ Gr w1 w' := by
  intro w1 g
  by_cases q1 : RightD s xs e
  · by_cases q2 : RightD t ys f
    · exact (cmpG s t ad1 ad2 n1 n2 c1 c2 e f _ _ w1 ⟨_, (dyAt_of r1 h1 q1).gr g, rfl⟩ ⟨_, (dyAt_of r2 h2 q2).gr g, rfl⟩).mono (by rintro r w' ⟨rfl, h⟩; exact ⟨⟨_, rfl⟩, h⟩)
    · exact (cmp17A2 s t ad1 ad2 n1 n2 c1 c2 e f w1 (r35t s ad1 n1 c1 e xs w1 (r1.gr g) h1 q1) (r35f t ad2 n2 c2 f ys w1 (r2.gr g) h2 q2)).mono (by rintro r w' ⟨rfl, h⟩; exact ⟨⟨_, rfl⟩, h⟩)
  · exact (cmp17A1 s t ad1 ad2 n1 n2 c1 c2 e f w1 (r35f s ad1 n1 c1 e xs w1 (r1.gr g) h1 q1)).mono (by rintro r w' ⟨rfl, h⟩; exact ⟨⟨_, rfl⟩, h⟩)
end Go.Proofs.YtbkkpbffdnhidaaGreatDoor
namespace Go.Proofs.YtbkkpbffdnhidaaGreatDoor
open Go.RowKit
set_option linter.unusedVariables false

theorem ret_bool' {a b : Bool} (h : a = b) : Ending.returned (.bool a) = .returned (.bool b) := by rw [h]
def bitB (x p : Nat) : Bool := decide (x / 2 ^ p % 2 = 1)
theorem bit_of {x q r : Nat} {xs : List Nat} (h : Dg 18446744073709551616 x xs) (hq : q < xs.length) (hr : r < 64) : x / 2 ^ (64 * q + r) % 2 = xs.getD q 0 / 2 ^ r % 2 := by
  have h1 := nv_split 18446744073709551616 xs q hq
  rw [h.1] at h1
  have hlt : nv 18446744073709551616 (xs.take q) < 18446744073709551616 ^ q := by
    have := nv_lt 18446744073709551616 (xs.take q) (fun y hy => h.2.1 y (List.mem_of_mem_take hy))
    rwa [List.length_take, Nat.min_eq_left (by omega)] at this
  have h2 : x / 18446744073709551616 ^ q = xs.getD q 0 + 18446744073709551616 * nv 18446744073709551616 (xs.drop (q + 1)) := by
    rw [h1, Nat.add_mul_div_left _ _ (Nat.pow_pos (by omega)), Nat.div_eq_of_lt hlt, Nat.zero_add]
  rw [Nat.pow_add, ← Nat.div_div_eq_div_mul, ← pow64, h2]
  generalize xs.getD q 0 = v
  generalize nv 18446744073709551616 (xs.drop (q + 1)) = T
  have e : 18446744073709551616 * T = 2 ^ r * (2 * (2 ^ (63 - r) * T)) := by
    rw [two64 hr, show 64 - r = 63 - r + 1 by omega, Nat.pow_succ]; ac_rfl
  rw [e, Nat.add_mul_div_left _ _ (Nat.two_pow_pos r)]
  omega
set_option maxHeartbeats 1600000 in
theorem bitAt69 (ad : Option Addr) (n cap x p : Nat) (w : World) (hx : Lim w ad n cap 18446744073709551616 x) (hn : n ≤ 1099511627776) (hp : p ≤ 1099511627776) :
    Calls Tryz.prog 92 #[.slice ad n cap, .int .i64 (p : Int)] w fun r w' => r = .returned (.bool (bitB x p)) ∧ w' = w := by
  obtain ⟨xs, rx, dx⟩ := hx
  have hle := rx.le
  have hmax := rx.max
  obtain ⟨q, hq⟩ : ∃ q, q = p / 64 := ⟨_, rfl⟩
  obtain ⟨r, hr⟩ : ∃ r, r = p % 64 := ⟨_, rfl⟩
  have hr64 : r < 64 := by omega
  have HN : Hid (p = 64 * q + r) := by show _ = _; omega
  have eq : (p : Int) / 64 = (q : Int) := by omega
  have er : (p : Int) % 64 = (r : Int) := by omega
  clear hq hr
  by_cases hbig : n ≤ q
  · have fin : Hid (bitB x p = false) := by
      show _ = _
      have h1 := dx.upper
      rw [rx.len, pow64] at h1
      have : x / 2 ^ p = 0 := Nat.div_eq_of_lt (Nat.lt_of_lt_of_le h1 (Nat.pow_le_pow_right (by omega) (by have := HN.out; omega)))
      unfold bitB
      rw [this]; rfl
    have hb : ¬ (q : Int) < (n : Int) := by omega
    rw [fin.out]
    clear rx dx
    go_enter Tryz.func92, Tryz.ntmps92
    go_wp2
    go_ret
    exact ⟨rfl, rfl⟩
  · obtain ⟨p1, o1, rfl, hp1, hc1⟩ := rx.lt (by omega)
    have hcell := hc1 w (Gr.refl w) q (by omega)
    have fin : Hid (bitB x p = decide (xs.getD q 0 / 2 ^ r % 2 = 1)) := by
      show _ = _
      unfold bitB
      rw [HN.out, bit_of dx (by rw [rx.len]; omega) hr64]
    have hb : (q : Int) < (n : Int) := by omega
    have hv := getD_lt (by omega) dx.2.1 q
    rw [fin.out]
    clear rx dx hc1
    generalize xs.getD q 0 = v at *
    go_enter Tryz.func92, Tryz.ntmps92
    go_wp2_with (simp only [er])
    go_ret
    refine ⟨ret_bool' ?_, rfl⟩
    rw [show (v : Int) / 2 ^ r = ((v / 2 ^ r : Nat) : Int) by simp, and_one (Nat.lt_of_le_of_lt (Nat.div_le_self _ _) hv)]
    by_cases h : v / 2 ^ r % 2 = 1
    · rw [h]; rfl
    · rw [show v / 2 ^ r % 2 = 0 by omega]; rfl
set_option maxHeartbeats 1600000 in
theorem shift42n (ad : Option Addr) (n cap x b : Nat) (w : World) (hx : Lim w ad n cap 18446744073709551616 x) (b1 : n ≤ 1099511627776) (b0 : 0 < b) (hb : b ≤ 1099511627776) :
    Calls Tryz.prog 80 #[.slice ad n cap, .int .i64 (-(b : Int))] w fun e w' => ∃ ad' n' cap', e = .returned (.slice ad' n' cap') ∧ n' ≤ n ∧ Lim w' ad' n' cap' 18446744073709551616 (x / 2 ^ b) ∧ Gr w w' := by
  have H : Hid (Calls Tryz.prog 47 #[.slice ad n cap, .int .i64 (b : Int)] w fun e w' => ∃ ad' n' cap', e = .returned (.slice ad' n' cap') ∧ n' ≤ n ∧ Lim w' ad' n' cap' 18446744073709551616 (x / 2 ^ b) ∧ Gr w w') := shiftDown37 ad n cap x b w hx b1 (by omega)
  have h0 : -(b : Int) < 0 := by omega
  clear hx
  go_enter Tryz.func80, Tryz.ntmps80
  go_wp2_with (go_at_call 47; (with_reducible refine H.out.mono ?_); rintro r w3 ⟨a3, n3, c3, rfl, hn3, hl3, g3⟩)
  go_ret
  exact ⟨_, _, _, rfl, hn3, hl3, g3⟩
end Go.Proofs.YtbkkpbffdnhidaaGreatDoor
