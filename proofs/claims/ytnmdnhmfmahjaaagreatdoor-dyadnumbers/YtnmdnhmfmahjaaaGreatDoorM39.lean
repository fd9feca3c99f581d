import Derived.Test.YtnmdnhmfmahjaaaGreatDoorM09
import Derived.Deep.DeepCutAuto
namespace Go.Proofs.YtnmdnhmfmahjaaaGreatDoor
open Go.RowKit
set_option linter.unusedVariables false

/-! CUT -/
set_option maxHeartbeats 1600000 in
theorem cut_z (s up : Bool) (ad : Option Addr) (n cap x : Nat) (e last : Int) (w : World) (dx : DyAt w s ad 0 cap e x) (hT : TabAt 1 Lib.deBruijn64tab w) (l1 : -1048576 ≤ last) (l2 : last ≤ 1048576) :
    Calls Tryz.prog 10 #[.agg #[.bool s, .slice ad 0 cap, .int .i64 e], .int .i64 last, .bool up] w fun r w' => Settled w' r s x e ∧ Gr w w' := by
  have b1 := dx.le
  have e1 := dx.low
  have e2 := dx.high
  have R := dx.r26
  have H36 : Hid (∀ w1, Calls Tryz.prog 37 #[.int .i64 last] w1 fun r w' => r = .returned (.bool true) ∧ w' = w1) := fun w1 => by
    have := rightExp36 last w1
    rw [show decide (-1048576 ≤ last ∧ last ≤ 1048576) = true by simp; omega] at this
    exact this
  have HL : Hid (Lim w ad 0 cap 18446744073709551616 x) := dx.lim
  have S35 : Hid (∀ a5 n5 c5 w1, Lim w1 a5 n5 c5 18446744073709551616 x → n5 ≤ 1099511627776 → Gr w w1 → Calls Tryz.prog 38 #[.agg #[.bool s, .slice a5 n5 c5, .int .i64 e]] w1 fun r w' => ∃ a b c d f' g', r = .returned (.tuple #[.agg #[.bool a, .slice b c d, .int .i64 f'], .int .i64 g']) ∧ Hid (Settled w' r s x e) ∧ Gr w1 w') := fun a5 n5 c5 w1 h5 hn g => by
    obtain ⟨xs, rx, dx⟩ := h5
    refine (settle35 s a5 n5 c5 x e xs w1 rx dx.2.1 dx.1 hn (tab_gr hT g) (by omega) (by omega)).mono ?_
    rintro r w' ⟨h1, h2⟩
    obtain ⟨a, b, c, d, f, g', hr⟩ := h1.form
    exact ⟨a, b, c, d, f, g', hr, h1, h2⟩
  clear dx hT
  have TB : Hid _ := two_blocks w (.bool s) (.slice ad 0 cap) (.int .i64 e) (.bool false) (.slice none 0 0) (.int .i64 0) _ rfl
  have kb0 : Hid _ := second_block w (.cells #[.bool s, .slice ad 0 cap, .int .i64 e] 24) (.cells #[.bool false, .slice none 0 0, .int .i64 0] 24)
  go_enter Tryz.func10, Tryz.ntmps10
  go_wp2_with (first | (go_at_call 27; (with_reducible refine (R.out _ (gr2 _ _)).mono ?_); rintro r w1 ⟨rfl, g1⟩; have k := keep6 g1 TB.out; have k0 := k.1.1; have k1 := k.1.2.1; have k2 := k.1.2.2.1; have kb := g1.keepH kb0.out) | (go_at_call 37; (with_reducible refine (H36.out _).mono ?_); rintro r w2 ⟨rfl, rfl⟩) | (go_at_call 38; (with_reducible refine (S35.out _ _ _ _ (HL.out.gr k.2) (by omega) k.2).mono ?_); rintro r w7 ⟨a, b, c, d, f', g', rfl, hS, g7⟩; have kb7 := g7.keepH kb; obtain ⟨t0, t1, t2, u0, u1, u2⟩ := Out3.of kb7; have GG := k.2.trans g7))
  refine bodyPost_ret (v := .tuple #[.agg #[.bool a, .slice b c d, .int .i64 f'], .int .i64 g']) ?_ rfl ⟨hS.out.set3 kb7 _ _ _, ?_⟩
  · simp [results, Tryz.results10, go_sem, t0, t1, t2]
  · exact ((GG.setCell (p := ⟨w.heap.size + 1, 0, none⟩) (Nat.le_succ _) _).setCell (p := ⟨w.heap.size + 1, 1, none⟩) (Nat.le_succ _) _).setCell (p := ⟨w.heap.size + 1, 2, none⟩) (Nat.le_succ _) _
set_option maxHeartbeats 1600000 in
theorem cut_f (s up : Bool) (ad : Option Addr) (n cap x : Nat) (e last : Int) (w : World) (dx : DyAt w s ad (n + 1) cap e x) (hT : TabAt 1 Lib.deBruijn64tab w) (l1 : -1048576 ≤ last) (l2 : last ≤ 1048576) (hf : last ≤ e) :
    Calls Tryz.prog 10 #[.agg #[.bool s, .slice ad (n + 1) cap, .int .i64 e], .int .i64 last, .bool up] w fun r w' => Settled w' r s x e ∧ Gr w w' := by
  have b1 := dx.le
  have e1 := dx.low
  have e2 := dx.high
  have R := dx.r26
  have H36 : Hid (∀ w1, Calls Tryz.prog 37 #[.int .i64 last] w1 fun r w' => r = .returned (.bool true) ∧ w' = w1) := fun w1 => by
    have := rightExp36 last w1
    rw [show decide (-1048576 ≤ last ∧ last ≤ 1048576) = true by simp; omega] at this
    exact this
  have HL : Hid (Lim w ad (n + 1) cap 18446744073709551616 x) := dx.lim
  have S35 : Hid (∀ a5 n5 c5 w1, Lim w1 a5 n5 c5 18446744073709551616 x → n5 ≤ 1099511627776 → Gr w w1 → Calls Tryz.prog 38 #[.agg #[.bool s, .slice a5 n5 c5, .int .i64 e]] w1 fun r w' => ∃ a b c d f' g', r = .returned (.tuple #[.agg #[.bool a, .slice b c d, .int .i64 f'], .int .i64 g']) ∧ Hid (Settled w' r s x e) ∧ Gr w1 w') := fun a5 n5 c5 w1 h5 hn g => by
    obtain ⟨xs, rx, dx⟩ := h5
    refine (settle35 s a5 n5 c5 x e xs w1 rx dx.2.1 dx.1 hn (tab_gr hT g) (by omega) (by omega)).mono ?_
    rintro r w' ⟨h1, h2⟩
    obtain ⟨a, b, c, d, f, g', hr⟩ := h1.form
    exact ⟨a, b, c, d, f, g', hr, h1, h2⟩
  clear dx hT
  have TB : Hid _ := two_blocks w (.bool s) (.slice ad (n + 1) cap) (.int .i64 e) (.bool false) (.slice none 0 0) (.int .i64 0) _ rfl
  have kb0 : Hid _ := second_block w (.cells #[.bool s, .slice ad (n + 1) cap, .int .i64 e] 24) (.cells #[.bool false, .slice none 0 0, .int .i64 0] 24)
  have z1 : ((n : Int) + 1 == 0) = false := by simp; omega
  have z2 : e ≥ last := by omega
  go_enter Tryz.func10, Tryz.ntmps10
  go_wp2_with (first | (go_at_call 27; (with_reducible refine (R.out _ (gr2 _ _)).mono ?_); rintro r w1 ⟨rfl, g1⟩; have k := keep6 g1 TB.out; have k0 := k.1.1; have k1 := k.1.2.1; have k2 := k.1.2.2.1; have kb := g1.keepH kb0.out) | (go_at_call 37; (with_reducible refine (H36.out _).mono ?_); rintro r w2 ⟨rfl, rfl⟩) | (go_at_call 38; (with_reducible refine (S35.out _ _ _ _ (HL.out.gr k.2) (by omega) k.2).mono ?_); rintro r w7 ⟨a, b, c, d, f', g', rfl, hS, g7⟩; have kb7 := g7.keepH kb; obtain ⟨t0, t1, t2, u0, u1, u2⟩ := Out3.of kb7; have GG := k.2.trans g7))
  refine bodyPost_ret (v := .tuple #[.agg #[.bool a, .slice b c d, .int .i64 f'], .int .i64 g']) ?_ rfl ⟨hS.out.set3 kb7 _ _ _, ?_⟩
  · simp [results, Tryz.results10, go_sem, t0, t1, t2]
  · exact ((GG.setCell (p := ⟨w.heap.size + 1, 0, none⟩) (Nat.le_succ _) _).setCell (p := ⟨w.heap.size + 1, 1, none⟩) (Nat.le_succ _) _).setCell (p := ⟨w.heap.size + 1, 2, none⟩) (Nat.le_succ _) _
set_option maxHeartbeats 1600000 in
theorem cut_p (s up : Bool) (hus : (up == s) = false) (ad : Option Addr) (n cap x t : Nat) (e last : Int) (w : World) (dx : DyAt w s ad (n + 1) cap e x) (hT : TabAt 1 Lib.deBruijn64tab w) (l1 : -1048576 ≤ last) (l2 : last ≤ 1048576) (hel : e < last) (ht : last - e = (t : Int)) :
    Calls Tryz.prog 10 #[.agg #[.bool s, .slice ad (n + 1) cap, .int .i64 e], .int .i64 last, .bool up] w fun r w' => Settled w' r s (x / 2 ^ t + 1) last ∧ Gr w w' := by
  have b1 := dx.le
  have e1 := dx.low
  have e2 := dx.high
  have R := dx.r26
  have H36 : Hid (∀ w1, Calls Tryz.prog 37 #[.int .i64 last] w1 fun r w' => r = .returned (.bool true) ∧ w' = w1) := fun w1 => by
    have := rightExp36 last w1
    rw [show decide (-1048576 ≤ last ∧ last ≤ 1048576) = true by simp; omega] at this
    exact this
  have HL : Hid (Lim w ad (n + 1) cap 18446744073709551616 x) := dx.lim
  have H37 : Hid (∀ w1, Gr w w1 → Calls Tryz.prog 39 #[.slice ad (n + 1) cap, .int .i64 (last - e)] w1 fun r w' => ∃ ad' n' cap', r = .returned (.slice ad' n' cap') ∧ Lim w' ad' n' cap' 18446744073709551616 (x / 2 ^ t) ∧ n' ≤ n + 1 ∧ Gr w1 w') := fun w1 g => by
    rw [ht]
    refine (shiftDown37 ad (n + 1) cap x t w1 (HL.out.gr g) (by omega) (by omega)).mono ?_
    rintro r w' ⟨a, n', c, rfl, h2, h3, h4⟩
    exact ⟨a, n', c, rfl, h3, h2, h4⟩
  have H38 : Hid (∀ a5 n5 c5 w1, Lim w1 a5 n5 c5 18446744073709551616 (x / 2 ^ t) → n5 ≤ n + 1 → Calls Tryz.prog 40 #[.slice a5 n5 c5, .slice (some ⟨w1.heap.size, 0, none⟩) 1 1] (w1.alloc (.cells #[.int .u64 1] 41)) fun r w' => ∃ ad' n' cap', r = .returned (.slice ad' n' cap') ∧ Lim w' ad' n' cap' 18446744073709551616 (x / 2 ^ t + 1) ∧ n' ≤ 1099511627776 ∧ Gr w1 w') := fun a5 n5 c5 w1 h5 hn => by
    have ga : Gr w1 (w1.alloc (.cells #[.int .u64 1] 41)) := (Gr.refl w1).alloc _
    refine (plus38 a5 _ n5 1 c5 1 (x / 2 ^ t) 1 _ (h5.gr ga) (limb_alloc w1 1 (by omega) (by omega)) (by omega) (by omega)).mono ?_
    rintro r w' ⟨a, n', c, rfl, h2, h3, h4⟩
    exact ⟨a, n', c, rfl, h3, by omega, ga.trans h4⟩
  have S35 : Hid (∀ a5 n5 c5 w1, Lim w1 a5 n5 c5 18446744073709551616 (x / 2 ^ t + 1) → n5 ≤ 1099511627776 → Gr w w1 → Calls Tryz.prog 38 #[.agg #[.bool s, .slice a5 n5 c5, .int .i64 last]] w1 fun r w' => ∃ a b c d f' g', r = .returned (.tuple #[.agg #[.bool a, .slice b c d, .int .i64 f'], .int .i64 g']) ∧ Hid (Settled w' r s (x / 2 ^ t + 1) last) ∧ Gr w1 w') := fun a5 n5 c5 w1 h5 hn g => by
    obtain ⟨xs, rx, dx⟩ := h5
    refine (settle35 s a5 n5 c5 (x / 2 ^ t + 1) last xs w1 rx dx.2.1 dx.1 hn (tab_gr hT g) (by omega) (by omega)).mono ?_
    rintro r w' ⟨h1, h2⟩
    obtain ⟨a, b, c, d, f, g', hr⟩ := h1.form
    exact ⟨a, b, c, d, f, g', hr, h1, h2⟩
  clear dx hT ht HL
  generalize (x / 2 ^ t + 1) = M at *
  have TB : Hid _ := two_blocks w (.bool s) (.slice ad (n + 1) cap) (.int .i64 e) (.bool false) (.slice none 0 0) (.int .i64 0) _ rfl
  have kb0 : Hid _ := second_block w (.cells #[.bool s, .slice ad (n + 1) cap, .int .i64 e] 24) (.cells #[.bool false, .slice none 0 0, .int .i64 0] 24)
  have z1 : ((n : Int) + 1 == 0) = false := by simp; omega
  have z2 : ¬ e ≥ last := by omega
  go_enter Tryz.func10, Tryz.ntmps10
  go_wp2_with (first | (go_at_call 27; (with_reducible refine (R.out _ (gr2 _ _)).mono ?_); rintro r w1 ⟨rfl, g1⟩; have k := keep6 g1 TB.out; have k0 := k.1.1; have k1 := k.1.2.1; have k2 := k.1.2.2.1; have kb := g1.keepH kb0.out) | (go_at_call 37; (with_reducible refine (H36.out _).mono ?_); rintro r w2 ⟨rfl, rfl⟩) | (go_at_call 39; (with_reducible refine (H37.out _ k.2).mono ?_); rintro r w3 ⟨a3, n3, c3, rfl, hl3, hn3, g3⟩; have j0 := g3.keep k0; have kb3 := g3.keepH kb; clear k0 k1 k2) | (go_at_call 40; (with_reducible refine (H38.out _ _ _ _ hl3 hn3).mono ?_); rintro r w5 ⟨a5, n5, c5, rfl, hl5, hn5, g5⟩; have m0 := g5.keep j0; have kb5 := g5.keepH kb3; clear j0) | (go_at_call 38; (with_reducible refine (S35.out _ _ _ _ hl5 hn5 ((k.2.trans g3).trans g5)).mono ?_); rintro r w7 ⟨a, b, c, d, f', g', rfl, hS, g7⟩; have kb7 := g7.keepH kb5; obtain ⟨t0, t1, t2, u0, u1, u2⟩ := Out3.of kb7; have GG := ((k.2.trans g3).trans g5).trans g7))
  refine bodyPost_ret (v := .tuple #[.agg #[.bool a, .slice b c d, .int .i64 f'], .int .i64 g']) ?_ rfl ⟨hS.out.set3 kb7 _ _ _, ?_⟩
  · simp [results, Tryz.results10, go_sem, t0, t1, t2]
  · exact ((GG.setCell (p := ⟨w.heap.size + 1, 0, none⟩) (Nat.le_succ _) _).setCell (p := ⟨w.heap.size + 1, 1, none⟩) (Nat.le_succ _) _).setCell (p := ⟨w.heap.size + 1, 2, none⟩) (Nat.le_succ _) _
set_option maxHeartbeats 1600000 in
theorem cut_m (s up : Bool) (hus : (up == s) = true) (ad : Option Addr) (n cap x t : Nat) (e last : Int) (w : World) (dx : DyAt w s ad (n + 1) cap e x) (hT : TabAt 1 Lib.deBruijn64tab w) (l1 : -1048576 ≤ last) (l2 : last ≤ 1048576) (hel : e < last) (ht : last - e = (t : Int)) :
    Calls Tryz.prog 10 #[.agg #[.bool s, .slice ad (n + 1) cap, .int .i64 e], .int .i64 last, .bool up] w fun r w' => Settled w' r s (x / 2 ^ t) last ∧ Gr w w' := by
  have b1 := dx.le
  have e1 := dx.low
  have e2 := dx.high
  have R := dx.r26
  have H36 : Hid (∀ w1, Calls Tryz.prog 37 #[.int .i64 last] w1 fun r w' => r = .returned (.bool true) ∧ w' = w1) := fun w1 => by
    have := rightExp36 last w1
    rw [show decide (-1048576 ≤ last ∧ last ≤ 1048576) = true by simp; omega] at this
    exact this
  have HL : Hid (Lim w ad (n + 1) cap 18446744073709551616 x) := dx.lim
  have H37 : Hid (∀ w1, Gr w w1 → Calls Tryz.prog 39 #[.slice ad (n + 1) cap, .int .i64 (last - e)] w1 fun r w' => ∃ ad' n' cap', r = .returned (.slice ad' n' cap') ∧ Lim w' ad' n' cap' 18446744073709551616 (x / 2 ^ t) ∧ n' ≤ n + 1 ∧ Gr w1 w') := fun w1 g => by
    rw [ht]
    refine (shiftDown37 ad (n + 1) cap x t w1 (HL.out.gr g) (by omega) (by omega)).mono ?_
    rintro r w' ⟨a, n', c, rfl, h2, h3, h4⟩
    exact ⟨a, n', c, rfl, h3, h2, h4⟩
  have S35 : Hid (∀ a5 n5 c5 w1, Lim w1 a5 n5 c5 18446744073709551616 (x / 2 ^ t) → n5 ≤ 1099511627776 → Gr w w1 → Calls Tryz.prog 38 #[.agg #[.bool s, .slice a5 n5 c5, .int .i64 last]] w1 fun r w' => ∃ a b c d f' g', r = .returned (.tuple #[.agg #[.bool a, .slice b c d, .int .i64 f'], .int .i64 g']) ∧ Hid (Settled w' r s (x / 2 ^ t) last) ∧ Gr w1 w') := fun a5 n5 c5 w1 h5 hn g => by
    obtain ⟨xs, rx, dx⟩ := h5
    refine (settle35 s a5 n5 c5 (x / 2 ^ t) last xs w1 rx dx.2.1 dx.1 hn (tab_gr hT g) (by omega) (by omega)).mono ?_
    rintro r w' ⟨h1, h2⟩
    obtain ⟨a, b, c, d, f, g', hr⟩ := h1.form
    exact ⟨a, b, c, d, f, g', hr, h1, h2⟩
  clear dx hT ht HL
  generalize (x / 2 ^ t) = M at *
  have TB : Hid _ := two_blocks w (.bool s) (.slice ad (n + 1) cap) (.int .i64 e) (.bool false) (.slice none 0 0) (.int .i64 0) _ rfl
  have kb0 : Hid _ := second_block w (.cells #[.bool s, .slice ad (n + 1) cap, .int .i64 e] 24) (.cells #[.bool false, .slice none 0 0, .int .i64 0] 24)
  have z1 : ((n : Int) + 1 == 0) = false := by simp; omega
  have z2 : ¬ e ≥ last := by omega
  go_enter Tryz.func10, Tryz.ntmps10
  go_wp2_with (first | (go_at_call 27; (with_reducible refine (R.out _ (gr2 _ _)).mono ?_); rintro r w1 ⟨rfl, g1⟩; have k := keep6 g1 TB.out; have k0 := k.1.1; have k1 := k.1.2.1; have k2 := k.1.2.2.1; have kb := g1.keepH kb0.out) | (go_at_call 37; (with_reducible refine (H36.out _).mono ?_); rintro r w2 ⟨rfl, rfl⟩) | (go_at_call 39; (with_reducible refine (H37.out _ k.2).mono ?_); rintro r w3 ⟨a3, n3, c3, rfl, hl3, hn3, g3⟩; have j0 := g3.keep k0; have kb3 := g3.keepH kb; clear k0 k1 k2) | (go_at_call 38; (with_reducible refine (S35.out _ _ _ _ hl3 (by omega) (k.2.trans g3)).mono ?_); rintro r w7 ⟨a, b, c, d, f', g', rfl, hS, g7⟩; have kb7 := g7.keepH kb3; obtain ⟨t0, t1, t2, u0, u1, u2⟩ := Out3.of kb7; have GG := (k.2.trans g3).trans g7))
  refine bodyPost_ret (v := .tuple #[.agg #[.bool a, .slice b c d, .int .i64 f'], .int .i64 g']) ?_ rfl ⟨hS.out.set3 kb7 _ _ _, ?_⟩
  · simp [results, Tryz.results10, go_sem, t0, t1, t2]
  · exact ((GG.setCell (p := ⟨w.heap.size + 1, 0, none⟩) (Nat.le_succ _) _).setCell (p := ⟨w.heap.size + 1, 1, none⟩) (Nat.le_succ _) _).setCell (p := ⟨w.heap.size + 1, 2, none⟩) (Nat.le_succ _) _
end Go.Proofs.YtnmdnhmfmahjaaaGreatDoor
