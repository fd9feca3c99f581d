import Derived.Test.YthilajhciifhaaaGreatDoorM19
import Derived.Test.YthilajhciifhaaaGreatDoorM09
import Derived.Deep.DeepCutAuto
namespace Go.Proofs.YthilajhciifhaaaGreatDoor
open Go.RowKit
set_option linter.unusedVariables false

theorem Settled.gr {w w' : World} {r : Ending} {s : Bool} {x : Nat} {e : Int} (h : Settled w r s x e) (g : Gr w w') : Settled w' r s x e := by
  unfold Settled at h ⊢
  rcases h with h | ⟨t, q, ad, n, cap, h1, h2, h3, h4, h5⟩ | h
  · exact Or.inl h
  · exact Or.inr (Or.inl ⟨t, q, ad, n, cap, h1, h2, h3, h4.gr g, h5⟩)
  · exact Or.inr (Or.inr h)
theorem nil_lim (w : World) : Lim w none 0 0 18446744073709551616 0 := ⟨[], Row.empty (by omega) (fun _ => rfl), Dg.nil⟩
end Go.Proofs.YthilajhciifhaaaGreatDoor
namespace Go.Proofs.YthilajhciifhaaaGreatDoor
open Go.RowKit
set_option linter.unusedVariables false

end Go.Proofs.YthilajhciifhaaaGreatDoor
namespace Go.Proofs.YthilajhciifhaaaGreatDoor
open Go.RowKit
set_option linter.unusedVariables false

end Go.Proofs.YthilajhciifhaaaGreatDoor
namespace Go.Proofs.YthilajhciifhaaaGreatDoor
open Go.RowKit
set_option linter.unusedVariables false

set_option maxRecDepth 10000 in
set_option maxHeartbeats 1600000 in
theorem neg13A (s : Bool) (ad : Option Addr) (n cap : Nat) (e : Int) (w : World) (R : Hid (∀ w1, Gr w w1 → Calls Tryz.prog 44 #[.agg #[.bool s, .slice ad n cap, .int .i64 e]] w1 fun r w' => r = .returned (.bool false) ∧ Gr w1 w')) :
    Calls Tryz.prog 12 #[.agg #[.bool s, .slice ad n cap, .int .i64 e]] w fun r w' => r = .returned (.tuple #[zeroD, .int .i64 2]) ∧ Gr w w' := by
  have TB : Hid _ := two_blocks w (.bool s) (.slice ad n cap) (.int .i64 e) (.bool false) (.slice none 0 0) (.int .i64 0) _ rfl
  have kb0 : Hid _ := second_block w (.cells #[.bool s, .slice ad n cap, .int .i64 e] 24) (.cells #[.bool false, .slice none 0 0, .int .i64 0] 24)
  go_enter Tryz.func12, Tryz.ntmps12
  go_wp2_with (first | (go_at_call 44; (with_reducible refine (R.out _ (gr2 _ _)).mono ?_); rintro r w1 ⟨rfl, g1⟩; have k := keep6 g1 TB.out; have k0 := k.1.1; have k1 := k.1.2.1; have k2 := k.1.2.2.1; have kb := g1.keepH kb0.out; obtain ⟨t0, t1, t2, u0, u1, u2⟩ := Out3.of kb))
  refine bodyPost_ret (v := .tuple #[zeroD, .int .i64 2]) ?_ rfl ⟨rfl, (((k.2).setCell (p := ⟨w.heap.size + 1, 0, none⟩) (Nat.le_succ _) _).setCell (p := ⟨w.heap.size + 1, 1, none⟩) (Nat.le_succ _) _).setCell (p := ⟨w.heap.size + 1, 2, none⟩) (Nat.le_succ _) _⟩
  simp [results, Tryz.results12, go_sem, t0, t1, t2, zeroD]
set_option maxRecDepth 10000 in
set_option maxHeartbeats 1600000 in
theorem scale15z (s : Bool) (ad : Option Addr) (n cap : Nat) (e : Int) (p : Int) (w : World) (R : Hid (∀ w1, Gr w w1 → Calls Tryz.prog 44 #[.agg #[.bool s, .slice ad 0 cap, .int .i64 e]] w1 fun r w' => r = .returned (.bool true) ∧ Gr w1 w')) :
    Calls Tryz.prog 13 #[.agg #[.bool s, .slice ad 0 cap, .int .i64 e], .int .i64 p] w fun r w' => r = .returned (.tuple #[zeroD, .int .i64 0]) ∧ Gr w w' := by
  have TB : Hid _ := two_blocks w (.bool s) (.slice ad 0 cap) (.int .i64 e) (.bool false) (.slice none 0 0) (.int .i64 0) _ rfl
  have kb0 : Hid _ := second_block w (.cells #[.bool s, .slice ad 0 cap, .int .i64 e] 24) (.cells #[.bool false, .slice none 0 0, .int .i64 0] 24)
  go_enter Tryz.func13, Tryz.ntmps13
  go_wp2_with (first | (go_at_call 44; (with_reducible refine (R.out _ (gr2 _ _)).mono ?_); rintro r w1 ⟨rfl, g1⟩; have k := keep6 g1 TB.out; have k0 := k.1.1; have k1 := k.1.2.1; have k2 := k.1.2.2.1; have kb := g1.keepH kb0.out; obtain ⟨t0, t1, t2, u0, u1, u2⟩ := Out3.of kb))
  refine bodyPost_ret (v := .tuple #[zeroD, .int .i64 0]) ?_ rfl ⟨rfl, (((k.2).setCell (p := ⟨w.heap.size + 1, 0, none⟩) (Nat.le_succ _) _).setCell (p := ⟨w.heap.size + 1, 1, none⟩) (Nat.le_succ _) _).setCell (p := ⟨w.heap.size + 1, 2, none⟩) (Nat.le_succ _) _⟩
  simp [results, Tryz.results13, go_sem, t0, t1, t2, zeroD]
set_option maxRecDepth 10000 in
set_option maxHeartbeats 1600000 in
theorem scale15mn (s : Bool) (ad : Option Addr) (n cap x : Nat) (e p : Int) (w : World) (dx : DyAt w s ad (n + 1) cap e x) (hT : TabAt 1 Lib.deBruijn64tab w) (p1 : -2097152 ≤ p) (p2 : p ≤ 2097152) :
    Calls Tryz.prog 13 #[.agg #[.bool s, .slice ad (n + 1) cap, .int .i64 e], .int .i64 p] w fun r w' => SettledN w.heap.size w' r s x (e + p) ∧ Gr w w' := by
  have R := dx.r26
  have b1 := dx.le
  have e1 := dx.low
  have e2 := dx.high
  have S35 : Hid (∀ w1, Gr w w1 → Calls Tryz.prog 45 #[.agg #[.bool s, .slice ad (n + 1) cap, .int .i64 (e + p)]] w1 fun r w' => ∃ a b c d f' g', r = .returned (.tuple #[.agg #[.bool a, .slice b c d, .int .i64 f'], .int .i64 g']) ∧ Hid (SettledN w.heap.size w' r s x (e + p)) ∧ Gr w1 w') := fun w1 g => by
    obtain ⟨xs, rx, gx⟩ := dx.lim.gr g
    refine (settle35n s ad (n + 1) cap x (e + p) xs w1 rx gx.2.1 gx.1 (by omega) (tab_gr hT g) (by omega) (by omega)).mono ?_
    rintro r w' ⟨h1, h2⟩
    obtain ⟨a, b, c, d, f, g', hr⟩ := h1.form
    exact ⟨a, b, c, d, f, g', hr, h1.low g.size, h2⟩
  clear dx hT
  have TB : Hid _ := two_blocks w (.bool s) (.slice ad (n + 1) cap) (.int .i64 e) (.bool false) (.slice none 0 0) (.int .i64 0) _ rfl
  have kb0 : Hid _ := second_block w (.cells #[.bool s, .slice ad (n + 1) cap, .int .i64 e] 24) (.cells #[.bool false, .slice none 0 0, .int .i64 0] 24)
  have z1 : ((n : Int) + 1 == 0) = false := by simp; omega
  have z2 : ¬ p < -2097152 := by omega
  have z3 : ¬ p > 2097152 := by omega
  go_enter Tryz.func13, Tryz.ntmps13
  go_wp2_with (first | (go_at_call 44; (with_reducible refine (R.out _ (gr2 _ _)).mono ?_); rintro r w1 ⟨rfl, g1⟩; have k := keep6 g1 TB.out; have k0 := k.1.1; have k1 := k.1.2.1; have k2 := k.1.2.2.1; have kb := g1.keepH kb0.out; obtain ⟨t0, t1, t2, u0, u1, u2⟩ := Out3.of kb) | (go_at_call 45; (with_reducible refine (S35.out _ k.2).mono ?_); rintro r w2 ⟨za, zb, zc, zd, zf, zg, rfl, hS, g2⟩; have kb2 := g2.keepH kb; clear k0 k1 k2 t0 t1 t2 u0 u1 u2; obtain ⟨t0, t1, t2, u0, u1, u2⟩ := Out3.of kb2))
  refine bodyPost_ret (v := .tuple #[.agg #[.bool za, .slice zb zc zd, .int .i64 zf], .int .i64 zg]) ?_ rfl ⟨hS.out.set3 kb2 _ _ _, (((k.2.trans g2).setCell (p := ⟨w.heap.size + 1, 0, none⟩) (Nat.le_succ _) _).setCell (p := ⟨w.heap.size + 1, 1, none⟩) (Nat.le_succ _) _).setCell (p := ⟨w.heap.size + 1, 2, none⟩) (Nat.le_succ _) _⟩
  simp [results, Tryz.results13, go_sem, t0, t1, t2]
theorem scale15m (s : Bool) (ad : Option Addr) (n cap x : Nat) (e p : Int) (w : World) (dx : DyAt w s ad (n + 1) cap e x) (hT : TabAt 1 Lib.deBruijn64tab w) (p1 : -2097152 ≤ p) (p2 : p ≤ 2097152) :
    Calls Tryz.prog 13 #[.agg #[.bool s, .slice ad (n + 1) cap, .int .i64 e], .int .i64 p] w fun r w' => Settled w' r s x (e + p) ∧ Gr w w' :=
  (scale15mn s ad n cap x e p w dx hT p1 p2).mono (by rintro r w' ⟨h1, h2⟩; exact ⟨h1.told, h2⟩)
end Go.Proofs.YthilajhciifhaaaGreatDoor
namespace Go.Proofs.YthilajhciifhaaaGreatDoor
open Go.RowKit
set_option linter.unusedVariables false

end Go.Proofs.YthilajhciifhaaaGreatDoor
namespace Go.Proofs.YthilajhciifhaaaGreatDoor
open Go.RowKit
set_option linter.unusedVariables false

end Go.Proofs.YthilajhciifhaaaGreatDoor
namespace Go.Proofs.YthilajhciifhaaaGreatDoor
open Go.RowKit
set_option linter.unusedVariables false

/-! CUT -/
set_option maxHeartbeats 1600000 in
theorem cut_zn (s up : Bool) (ad : Option Addr) (n cap x : Nat) (e last : Int) (w : World) (dx : DyAt w s ad 0 cap e x) (hT : TabAt 1 Lib.deBruijn64tab w) (l1 : -1048576 ≤ last) (l2 : last ≤ 1048576) :
    Calls Tryz.prog 14 #[.agg #[.bool s, .slice ad 0 cap, .int .i64 e], .int .i64 last, .bool up] w fun r w' => SettledN w.heap.size w' r s x e ∧ Gr w w' := by
  have b1 := dx.le
  have e1 := dx.low
  have e2 := dx.high
  have R := dx.r26
  have H36 : Hid (∀ w1, Calls Tryz.prog 46 #[.int .i64 last] w1 fun r w' => r = .returned (.bool true) ∧ w' = w1) := fun w1 => by
    have := rightExp36 last w1
    rw [show decide (-1048576 ≤ last ∧ last ≤ 1048576) = true by simp; omega] at this
    exact this
  have HL : Hid (Lim w ad 0 cap 18446744073709551616 x) := dx.lim
  have S35 : Hid (∀ a5 n5 c5 w1, Lim w1 a5 n5 c5 18446744073709551616 x → n5 ≤ 1099511627776 → Gr w w1 → Calls Tryz.prog 45 #[.agg #[.bool s, .slice a5 n5 c5, .int .i64 e]] w1 fun r w' => ∃ a b c d f' g', r = .returned (.tuple #[.agg #[.bool a, .slice b c d, .int .i64 f'], .int .i64 g']) ∧ Hid (SettledN w.heap.size w' r s x e) ∧ Gr w1 w') := fun a5 n5 c5 w1 h5 hn g => by
    obtain ⟨xs, rx, dx⟩ := h5
    refine (settle35n s a5 n5 c5 x e xs w1 rx dx.2.1 dx.1 hn (tab_gr hT g) (by omega) (by omega)).mono ?_
    rintro r w' ⟨h1, h2⟩
    obtain ⟨a, b, c, d, f, g', hr⟩ := h1.form
    exact ⟨a, b, c, d, f, g', hr, h1.low g.size, h2⟩
  clear dx hT
  have TB : Hid _ := two_blocks w (.bool s) (.slice ad 0 cap) (.int .i64 e) (.bool false) (.slice none 0 0) (.int .i64 0) _ rfl
  have kb0 : Hid _ := second_block w (.cells #[.bool s, .slice ad 0 cap, .int .i64 e] 24) (.cells #[.bool false, .slice none 0 0, .int .i64 0] 24)
  go_enter Tryz.func14, Tryz.ntmps14
  go_wp2_with (first | (go_at_call 44; (with_reducible refine (R.out _ (gr2 _ _)).mono ?_); rintro r w1 ⟨rfl, g1⟩; have k := keep6 g1 TB.out; have k0 := k.1.1; have k1 := k.1.2.1; have k2 := k.1.2.2.1; have kb := g1.keepH kb0.out) | (go_at_call 46; (with_reducible refine (H36.out _).mono ?_); rintro r w2 ⟨rfl, rfl⟩) | (go_at_call 45; (with_reducible refine (S35.out _ _ _ _ (HL.out.gr k.2) (by omega) k.2).mono ?_); rintro r w7 ⟨a, b, c, d, f', g', rfl, hS, g7⟩; have kb7 := g7.keepH kb; obtain ⟨t0, t1, t2, u0, u1, u2⟩ := Out3.of kb7; have GG := k.2.trans g7))
  refine bodyPost_ret (v := .tuple #[.agg #[.bool a, .slice b c d, .int .i64 f'], .int .i64 g']) ?_ rfl ⟨hS.out.set3 kb7 _ _ _, ?_⟩
  · simp [results, Tryz.results14, go_sem, t0, t1, t2]
  · exact ((GG.setCell (p := ⟨w.heap.size + 1, 0, none⟩) (Nat.le_succ _) _).setCell (p := ⟨w.heap.size + 1, 1, none⟩) (Nat.le_succ _) _).setCell (p := ⟨w.heap.size + 1, 2, none⟩) (Nat.le_succ _) _
theorem cut_z (s up : Bool) (ad : Option Addr) (n cap x : Nat) (e last : Int) (w : World) (dx : DyAt w s ad 0 cap e x) (hT : TabAt 1 Lib.deBruijn64tab w) (l1 : -1048576 ≤ last) (l2 : last ≤ 1048576) :
    Calls Tryz.prog 14 #[.agg #[.bool s, .slice ad 0 cap, .int .i64 e], .int .i64 last, .bool up] w fun r w' => Settled w' r s x e ∧ Gr w w' :=
  (cut_zn s up ad n cap x e last w dx hT l1 l2).mono (by rintro r w' ⟨h1, h2⟩; exact ⟨h1.told, h2⟩)
set_option maxHeartbeats 1600000 in
theorem cut_fn (s up : Bool) (ad : Option Addr) (n cap x : Nat) (e last : Int) (w : World) (dx : DyAt w s ad (n + 1) cap e x) (hT : TabAt 1 Lib.deBruijn64tab w) (l1 : -1048576 ≤ last) (l2 : last ≤ 1048576) (hf : last ≤ e) :
    Calls Tryz.prog 14 #[.agg #[.bool s, .slice ad (n + 1) cap, .int .i64 e], .int .i64 last, .bool up] w fun r w' => SettledN w.heap.size w' r s x e ∧ Gr w w' := by
  have b1 := dx.le
  have e1 := dx.low
  have e2 := dx.high
  have R := dx.r26
  have H36 : Hid (∀ w1, Calls Tryz.prog 46 #[.int .i64 last] w1 fun r w' => r = .returned (.bool true) ∧ w' = w1) := fun w1 => by
    have := rightExp36 last w1
    rw [show decide (-1048576 ≤ last ∧ last ≤ 1048576) = true by simp; omega] at this
    exact this
  have HL : Hid (Lim w ad (n + 1) cap 18446744073709551616 x) := dx.lim
  have S35 : Hid (∀ a5 n5 c5 w1, Lim w1 a5 n5 c5 18446744073709551616 x → n5 ≤ 1099511627776 → Gr w w1 → Calls Tryz.prog 45 #[.agg #[.bool s, .slice a5 n5 c5, .int .i64 e]] w1 fun r w' => ∃ a b c d f' g', r = .returned (.tuple #[.agg #[.bool a, .slice b c d, .int .i64 f'], .int .i64 g']) ∧ Hid (SettledN w.heap.size w' r s x e) ∧ Gr w1 w') := fun a5 n5 c5 w1 h5 hn g => by
    obtain ⟨xs, rx, dx⟩ := h5
    refine (settle35n s a5 n5 c5 x e xs w1 rx dx.2.1 dx.1 hn (tab_gr hT g) (by omega) (by omega)).mono ?_
    rintro r w' ⟨h1, h2⟩
    obtain ⟨a, b, c, d, f, g', hr⟩ := h1.form
    exact ⟨a, b, c, d, f, g', hr, h1.low g.size, h2⟩
  clear dx hT
  have TB : Hid _ := two_blocks w (.bool s) (.slice ad (n + 1) cap) (.int .i64 e) (.bool false) (.slice none 0 0) (.int .i64 0) _ rfl
  have kb0 : Hid _ := second_block w (.cells #[.bool s, .slice ad (n + 1) cap, .int .i64 e] 24) (.cells #[.bool false, .slice none 0 0, .int .i64 0] 24)
  have z1 : ((n : Int) + 1 == 0) = false := by simp; omega
  have z2 : e ≥ last := by omega
  go_enter Tryz.func14, Tryz.ntmps14
  go_wp2_with (first | (go_at_call 44; (with_reducible refine (R.out _ (gr2 _ _)).mono ?_); rintro r w1 ⟨rfl, g1⟩; have k := keep6 g1 TB.out; have k0 := k.1.1; have k1 := k.1.2.1; have k2 := k.1.2.2.1; have kb := g1.keepH kb0.out) | (go_at_call 46; (with_reducible refine (H36.out _).mono ?_); rintro r w2 ⟨rfl, rfl⟩) | (go_at_call 45; (with_reducible refine (S35.out _ _ _ _ (HL.out.gr k.2) (by omega) k.2).mono ?_); rintro r w7 ⟨a, b, c, d, f', g', rfl, hS, g7⟩; have kb7 := g7.keepH kb; obtain ⟨t0, t1, t2, u0, u1, u2⟩ := Out3.of kb7; have GG := k.2.trans g7))
  refine bodyPost_ret (v := .tuple #[.agg #[.bool a, .slice b c d, .int .i64 f'], .int .i64 g']) ?_ rfl ⟨hS.out.set3 kb7 _ _ _, ?_⟩
  · simp [results, Tryz.results14, go_sem, t0, t1, t2]
  · exact ((GG.setCell (p := ⟨w.heap.size + 1, 0, none⟩) (Nat.le_succ _) _).setCell (p := ⟨w.heap.size + 1, 1, none⟩) (Nat.le_succ _) _).setCell (p := ⟨w.heap.size + 1, 2, none⟩) (Nat.le_succ _) _
theorem cut_f (s up : Bool) (ad : Option Addr) (n cap x : Nat) (e last : Int) (w : World) (dx : DyAt w s ad (n + 1) cap e x) (hT : TabAt 1 Lib.deBruijn64tab w) (l1 : -1048576 ≤ last) (l2 : last ≤ 1048576) (hf : last ≤ e) :
    Calls Tryz.prog 14 #[.agg #[.bool s, .slice ad (n + 1) cap, .int .i64 e], .int .i64 last, .bool up] w fun r w' => Settled w' r s x e ∧ Gr w w' :=
  (cut_fn s up ad n cap x e last w dx hT l1 l2 hf).mono (by rintro r w' ⟨h1, h2⟩; exact ⟨h1.told, h2⟩)
set_option maxHeartbeats 1600000 in
theorem cut_pn (s up : Bool) (hus : (up == s) = false) (ad : Option Addr) (n cap x t : Nat) (e last : Int) (w : World) (dx : DyAt w s ad (n + 1) cap e x) (hT : TabAt 1 Lib.deBruijn64tab w) (l1 : -1048576 ≤ last) (l2 : last ≤ 1048576) (hel : e < last) (ht : last - e = (t : Int)) :
    Calls Tryz.prog 14 #[.agg #[.bool s, .slice ad (n + 1) cap, .int .i64 e], .int .i64 last, .bool up] w fun r w' => SettledN w.heap.size w' r s (x / 2 ^ t + 1) last ∧ Gr w w' := by
  have b1 := dx.le
  have e1 := dx.low
  have e2 := dx.high
  have R := dx.r26
  have H36 : Hid (∀ w1, Calls Tryz.prog 46 #[.int .i64 last] w1 fun r w' => r = .returned (.bool true) ∧ w' = w1) := fun w1 => by
    have := rightExp36 last w1
    rw [show decide (-1048576 ≤ last ∧ last ≤ 1048576) = true by simp; omega] at this
    exact this
  have HL : Hid (Lim w ad (n + 1) cap 18446744073709551616 x) := dx.lim
  have H37 : Hid (∀ w1, Gr w w1 → Calls Tryz.prog 47 #[.slice ad (n + 1) cap, .int .i64 (last - e)] w1 fun r w' => ∃ ad' n' cap', r = .returned (.slice ad' n' cap') ∧ Lim w' ad' n' cap' 18446744073709551616 (x / 2 ^ t) ∧ n' ≤ n + 1 ∧ Gr w1 w') := fun w1 g => by
    rw [ht]
    refine (shiftDown37 ad (n + 1) cap x t w1 (HL.out.gr g) (by omega) (by omega)).mono ?_
    rintro r w' ⟨a, n', c, rfl, h2, h3, h4⟩
    exact ⟨a, n', c, rfl, h3, h2, h4⟩
  have H38 : Hid (∀ a5 n5 c5 w1, Lim w1 a5 n5 c5 18446744073709551616 (x / 2 ^ t) → n5 ≤ n + 1 → Calls Tryz.prog 48 #[.slice a5 n5 c5, .slice (some ⟨w1.heap.size, 0, none⟩) 1 1] (w1.alloc (.cells #[.int .u64 1] 49)) fun r w' => ∃ ad' n' cap', r = .returned (.slice ad' n' cap') ∧ Lim w' ad' n' cap' 18446744073709551616 (x / 2 ^ t + 1) ∧ n' ≤ 1099511627776 ∧ Gr w1 w') := fun a5 n5 c5 w1 h5 hn => by
    have ga : Gr w1 (w1.alloc (.cells #[.int .u64 1] 49)) := (Gr.refl w1).alloc _
    refine (plus38 a5 _ n5 1 c5 1 (x / 2 ^ t) 1 _ (h5.gr ga) (limb_alloc w1 1 (by omega) (by omega)) (by omega) (by omega)).mono ?_
    rintro r w' ⟨a, n', c, rfl, h2, h3, h4⟩
    exact ⟨a, n', c, rfl, h3, by omega, ga.trans h4⟩
  have S35 : Hid (∀ a5 n5 c5 w1, Lim w1 a5 n5 c5 18446744073709551616 (x / 2 ^ t + 1) → n5 ≤ 1099511627776 → Gr w w1 → Calls Tryz.prog 45 #[.agg #[.bool s, .slice a5 n5 c5, .int .i64 last]] w1 fun r w' => ∃ a b c d f' g', r = .returned (.tuple #[.agg #[.bool a, .slice b c d, .int .i64 f'], .int .i64 g']) ∧ Hid (SettledN w.heap.size w' r s (x / 2 ^ t + 1) last) ∧ Gr w1 w') := fun a5 n5 c5 w1 h5 hn g => by
    obtain ⟨xs, rx, dx⟩ := h5
    refine (settle35n s a5 n5 c5 (x / 2 ^ t + 1) last xs w1 rx dx.2.1 dx.1 hn (tab_gr hT g) (by omega) (by omega)).mono ?_
    rintro r w' ⟨h1, h2⟩
    obtain ⟨a, b, c, d, f, g', hr⟩ := h1.form
    exact ⟨a, b, c, d, f, g', hr, h1.low g.size, h2⟩
  clear dx hT ht HL
  generalize (x / 2 ^ t + 1) = M at *
  have TB : Hid _ := two_blocks w (.bool s) (.slice ad (n + 1) cap) (.int .i64 e) (.bool false) (.slice none 0 0) (.int .i64 0) _ rfl
  have kb0 : Hid _ := second_block w (.cells #[.bool s, .slice ad (n + 1) cap, .int .i64 e] 24) (.cells #[.bool false, .slice none 0 0, .int .i64 0] 24)
  have z1 : ((n : Int) + 1 == 0) = false := by simp; omega
  have z2 : ¬ e ≥ last := by omega
  go_enter Tryz.func14, Tryz.ntmps14
  go_wp2_with (first | (go_at_call 44; (with_reducible refine (R.out _ (gr2 _ _)).mono ?_); rintro r w1 ⟨rfl, g1⟩; have k := keep6 g1 TB.out; have k0 := k.1.1; have k1 := k.1.2.1; have k2 := k.1.2.2.1; have kb := g1.keepH kb0.out) | (go_at_call 46; (with_reducible refine (H36.out _).mono ?_); rintro r w2 ⟨rfl, rfl⟩) | (go_at_call 47; (with_reducible refine (H37.out _ k.2).mono ?_); rintro r w3 ⟨a3, n3, c3, rfl, hl3, hn3, g3⟩; have j0 := g3.keep k0; have kb3 := g3.keepH kb; clear k0 k1 k2) | (go_at_call 48; (with_reducible refine (H38.out _ _ _ _ hl3 hn3).mono ?_); rintro r w5 ⟨a5, n5, c5, rfl, hl5, hn5, g5⟩; have m0 := g5.keep j0; have kb5 := g5.keepH kb3; clear j0) | (go_at_call 45; (with_reducible refine (S35.out _ _ _ _ hl5 hn5 ((k.2.trans g3).trans g5)).mono ?_); rintro r w7 ⟨a, b, c, d, f', g', rfl, hS, g7⟩; have kb7 := g7.keepH kb5; obtain ⟨t0, t1, t2, u0, u1, u2⟩ := Out3.of kb7; have GG := ((k.2.trans g3).trans g5).trans g7))
  refine bodyPost_ret (v := .tuple #[.agg #[.bool a, .slice b c d, .int .i64 f'], .int .i64 g']) ?_ rfl ⟨hS.out.set3 kb7 _ _ _, ?_⟩
  · simp [results, Tryz.results14, go_sem, t0, t1, t2]
  · exact ((GG.setCell (p := ⟨w.heap.size + 1, 0, none⟩) (Nat.le_succ _) _).setCell (p := ⟨w.heap.size + 1, 1, none⟩) (Nat.le_succ _) _).setCell (p := ⟨w.heap.size + 1, 2, none⟩) (Nat.le_succ _) _
theorem cut_p (s up : Bool) (hus : (up == s) = false) (ad : Option Addr) (n cap x t : Nat) (e last : Int) (w : World) (dx : DyAt w s ad (n + 1) cap e x) (hT : TabAt 1 Lib.deBruijn64tab w) (l1 : -1048576 ≤ last) (l2 : last ≤ 1048576) (hel : e < last) (ht : last - e = (t : Int)) :
    Calls Tryz.prog 14 #[.agg #[.bool s, .slice ad (n + 1) cap, .int .i64 e], .int .i64 last, .bool up] w fun r w' => Settled w' r s (x / 2 ^ t + 1) last ∧ Gr w w' :=
  (cut_pn s up hus ad n cap x t e last w dx hT l1 l2 hel ht).mono (by rintro r w' ⟨h1, h2⟩; exact ⟨h1.told, h2⟩)
set_option maxHeartbeats 1600000 in
theorem cut_mn (s up : Bool) (hus : (up == s) = true) (ad : Option Addr) (n cap x t : Nat) (e last : Int) (w : World) (dx : DyAt w s ad (n + 1) cap e x) (hT : TabAt 1 Lib.deBruijn64tab w) (l1 : -1048576 ≤ last) (l2 : last ≤ 1048576) (hel : e < last) (ht : last - e = (t : Int)) :
    Calls Tryz.prog 14 #[.agg #[.bool s, .slice ad (n + 1) cap, .int .i64 e], .int .i64 last, .bool up] w fun r w' => SettledN w.heap.size w' r s (x / 2 ^ t) last ∧ Gr w w' := by
  have b1 := dx.le
  have e1 := dx.low
  have e2 := dx.high
  have R := dx.r26
  have H36 : Hid (∀ w1, Calls Tryz.prog 46 #[.int .i64 last] w1 fun r w' => r = .returned (.bool true) ∧ w' = w1) := fun w1 => by
    have := rightExp36 last w1
    rw [show decide (-1048576 ≤ last ∧ last ≤ 1048576) = true by simp; omega] at this
    exact this
  have HL : Hid (Lim w ad (n + 1) cap 18446744073709551616 x) := dx.lim
  have H37 : Hid (∀ w1, Gr w w1 → Calls Tryz.prog 47 #[.slice ad (n + 1) cap, .int .i64 (last - e)] w1 fun r w' => ∃ ad' n' cap', r = .returned (.slice ad' n' cap') ∧ Lim w' ad' n' cap' 18446744073709551616 (x / 2 ^ t) ∧ n' ≤ n + 1 ∧ Gr w1 w') := fun w1 g => by
    rw [ht]
    refine (shiftDown37 ad (n + 1) cap x t w1 (HL.out.gr g) (by omega) (by omega)).mono ?_
    rintro r w' ⟨a, n', c, rfl, h2, h3, h4⟩
    exact ⟨a, n', c, rfl, h3, h2, h4⟩
  have S35 : Hid (∀ a5 n5 c5 w1, Lim w1 a5 n5 c5 18446744073709551616 (x / 2 ^ t) → n5 ≤ 1099511627776 → Gr w w1 → Calls Tryz.prog 45 #[.agg #[.bool s, .slice a5 n5 c5, .int .i64 last]] w1 fun r w' => ∃ a b c d f' g', r = .returned (.tuple #[.agg #[.bool a, .slice b c d, .int .i64 f'], .int .i64 g']) ∧ Hid (SettledN w.heap.size w' r s (x / 2 ^ t) last) ∧ Gr w1 w') := fun a5 n5 c5 w1 h5 hn g => by
    obtain ⟨xs, rx, dx⟩ := h5
    refine (settle35n s a5 n5 c5 (x / 2 ^ t) last xs w1 rx dx.2.1 dx.1 hn (tab_gr hT g) (by omega) (by omega)).mono ?_
    rintro r w' ⟨h1, h2⟩
    obtain ⟨a, b, c, d, f, g', hr⟩ := h1.form
    exact ⟨a, b, c, d, f, g', hr, h1.low g.size, h2⟩
  clear dx hT ht HL
  generalize (x / 2 ^ t) = M at *
  have TB : Hid _ := two_blocks w (.bool s) (.slice ad (n + 1) cap) (.int .i64 e) (.bool false) (.slice none 0 0) (.int .i64 0) _ rfl
  have kb0 : Hid _ := second_block w (.cells #[.bool s, .slice ad (n + 1) cap, .int .i64 e] 24) (.cells #[.bool false, .slice none 0 0, .int .i64 0] 24)
  have z1 : ((n : Int) + 1 == 0) = false := by simp; omega
  have z2 : ¬ e ≥ last := by omega
  go_enter Tryz.func14, Tryz.ntmps14
  go_wp2_with (first | (go_at_call 44; (with_reducible refine (R.out _ (gr2 _ _)).mono ?_); rintro r w1 ⟨rfl, g1⟩; have k := keep6 g1 TB.out; have k0 := k.1.1; have k1 := k.1.2.1; have k2 := k.1.2.2.1; have kb := g1.keepH kb0.out) | (go_at_call 46; (with_reducible refine (H36.out _).mono ?_); rintro r w2 ⟨rfl, rfl⟩) | (go_at_call 47; (with_reducible refine (H37.out _ k.2).mono ?_); rintro r w3 ⟨a3, n3, c3, rfl, hl3, hn3, g3⟩; have j0 := g3.keep k0; have kb3 := g3.keepH kb; clear k0 k1 k2) | (go_at_call 45; (with_reducible refine (S35.out _ _ _ _ hl3 (by omega) (k.2.trans g3)).mono ?_); rintro r w7 ⟨a, b, c, d, f', g', rfl, hS, g7⟩; have kb7 := g7.keepH kb3; obtain ⟨t0, t1, t2, u0, u1, u2⟩ := Out3.of kb7; have GG := (k.2.trans g3).trans g7))
  refine bodyPost_ret (v := .tuple #[.agg #[.bool a, .slice b c d, .int .i64 f'], .int .i64 g']) ?_ rfl ⟨hS.out.set3 kb7 _ _ _, ?_⟩
  · simp [results, Tryz.results14, go_sem, t0, t1, t2]
  · exact ((GG.setCell (p := ⟨w.heap.size + 1, 0, none⟩) (Nat.le_succ _) _).setCell (p := ⟨w.heap.size + 1, 1, none⟩) (Nat.le_succ _) _).setCell (p := ⟨w.heap.size + 1, 2, none⟩) (Nat.le_succ _) _
theorem cut_m (s up : Bool) (hus : (up == s) = true) (ad : Option Addr) (n cap x t : Nat) (e last : Int) (w : World) (dx : DyAt w s ad (n + 1) cap e x) (hT : TabAt 1 Lib.deBruijn64tab w) (l1 : -1048576 ≤ last) (l2 : last ≤ 1048576) (hel : e < last) (ht : last - e = (t : Int)) :
    Calls Tryz.prog 14 #[.agg #[.bool s, .slice ad (n + 1) cap, .int .i64 e], .int .i64 last, .bool up] w fun r w' => Settled w' r s (x / 2 ^ t) last ∧ Gr w w' :=
  (cut_mn s up hus ad n cap x t e last w dx hT l1 l2 hel ht).mono (by rintro r w' ⟨h1, h2⟩; exact ⟨h1.told, h2⟩)
end Go.Proofs.YthilajhciifhaaaGreatDoor
namespace Go.Proofs.YthilajhciifhaaaGreatDoor
open Go.RowKit
set_option linter.unusedVariables false

end Go.Proofs.YthilajhciifhaaaGreatDoor
namespace Go.Proofs.YthilajhciifhaaaGreatDoor
open Go.RowKit
set_option linter.unusedVariables false

theorem sub64B (o l : Nat) (ho : o < 18446744073709551616) (hl : l < 18446744073709551616) : ∃ new bo : Nat, new + l = o + 18446744073709551616 * bo ∧ bo ≤ 1 ∧ new < 18446744073709551616 ∧ (l = 0 → bo = 0) ∧ ∀ w, (callFunc 134 #[.int .u64 (o : Int), .int .u64 (l : Int), .int .u64 0]).run Tryz.prog w = .ok (.value (.tuple #[.int .u64 (new : Int), .int .u64 (bo : Int)])) w := by
  refine ⟨(o + 18446744073709551616 - l - 0) % 18446744073709551616, if o < l + 0 then 1 else 0, ?_, ?_, Nat.mod_lt _ (by omega), ?_, fun w => sub64N o l 0 (by omega) w⟩
  · split <;> omega
  · split <;> omega
  · intro h; rw [if_neg (by omega)]

set_option maxHeartbeats 1600000 in
theorem takeTimesN (g N k cp x : Nat) (ad2 : Option Addr) (n2 c2 : Nat) (ys zs0 : List Nat) (w0 w : World) (ry : Row w0 ad2 n2 c2 ys) (hy : ∀ x ∈ ys, x < 18446744073709551616) (bx : x < 18446744073709551616) (h0 : ∀ z ∈ zs0, z < 18446744073709551616)
    (hkN : k + n2 + 1 ≤ N) (hNm : N ≤ 4398046511104) (hcp : n2 + 1 ≤ cp) (hg0 : Gr w0 w) (hsz : w0.heap.size ≤ g) (how : w.ownsRow g 49 1 (.slice (some ⟨g, 0, none⟩) N N) N (u64s zs0)) :
    Calls Tryz.prog 186 #[.slice (some ⟨g, k, none⟩) ((n2 : Nat) + 1) cp, .slice ad2 n2 c2, .int .u64 (x : Int)] w fun e w' => ∃ (b : Nat) (zs : List Nat), e = .returned (.int .u64 (b : Int)) ∧ b ≤ 1 ∧ (zs.length = N ∧ (∀ z ∈ zs, z < 18446744073709551616) ∧ nv 18446744073709551616 zs + 18446744073709551616 ^ k * (x * nv 18446744073709551616 ys) = nv 18446744073709551616 zs0 + 18446744073709551616 ^ (k + n2 + 1) * b ∧ ∀ i, k + n2 + 1 ≤ i → zs.getD i 0 = zs0.getD i 0) ∧ w'.ownsRow g 49 1 (.slice (some ⟨g, 0, none⟩) N N) N (u64s zs) ∧ Gr w0 w' ∧ Gx g w w' := by
  have RY : Hid (Row w0 ad2 n2 c2 ys) := ry
  have HY : Hid (∀ x ∈ ys, x < 18446744073709551616) := hy
  have H0 : Hid (∀ x ∈ zs0, x < 18446744073709551616) := h0
  have HG : Hid (Gr w0 w ∧ Gx g w w) := ⟨hg0, Gx.refl g w⟩
  have hl2 := ry.le
  clear ry hy hg0 h0
  go_enter Tryz.func186, Tryz.ntmps186
  go_wp2
  go_loopw [7, 17] (fun cr i wr => ∃ (j c : Nat) (zs : List Nat), j ≤ n2 ∧ c < 18446744073709551616 ∧ i = .int .i64 (j : Int) ∧ cr = .int .u64 (c : Int) ∧ wr.ownsRow g 49 1 (.slice (some ⟨g, 0, none⟩) N N) N (u64s zs) ∧ Hid (TakAt ys zs zs0 k j x c N) ∧ Hid (Gr w0 wr ∧ Gx g w wr)) (fun _ i _ => n2 - (intOf i).toNat)
  case atStart => exact ⟨0, 0, zs0, by omega, by omega, rfl, rfl, how, TakAt.start (owns_len how) H0.out, HG⟩
  case round =>
    obtain ⟨j, c, zs, hj, hc, rfl, rfl, hown, hA, hg⟩ := hrel
    by_cases hlt : j < n2
    · obtain ⟨p2, o2, rfl, hp2, hc2⟩ := RY.out.lt (by omega)
      have hcell2 := hc2 wr hg.out.1 j hlt
      have hcell3 := owns_cell hown (k + j) (by omega)
      have hfz := hown.frozenAt (k + j)
      obtain ⟨yk, hyk⟩ : ∃ yk, yk = ys.getD j 0 := ⟨_, rfl⟩
      obtain ⟨ok, hok⟩ : ∃ ok, ok = zs.getD (k + j) 0 := ⟨_, rfl⟩
      rw [← hyk] at hcell2
      rw [← hok] at hcell3
      have byk : yk < 18446744073709551616 := hyk ▸ getD_lt (by omega) HY.out j
      have bok : ok < 18446744073709551616 := hok ▸ getD_lt (by omega) hA.out.lt (k + j)
      have MUL := fun w => Tryz.bits_Mul64 x yk bx byk w
      have hm := prod_le bx byk
      obtain ⟨m, hmm⟩ : ∃ m, m = x * yk := ⟨_, rfl⟩
      rw [← hmm] at MUL hm
      obtain ⟨hi, hhi⟩ : ∃ hi, hi = m / 18446744073709551616 := ⟨_, rfl⟩
      obtain ⟨lo, hlo⟩ : ∃ lo, lo = m % 18446744073709551616 := ⟨_, rfl⟩
      rw [← hhi, ← hlo] at MUL
      have M : Hid (∀ w1, Calls Tryz.prog 135 #[.int .u64 (x : Int), .int .u64 (yk : Int)] w1 fun e w' => e = .returned (.tuple #[.int .u64 (hi : Int), .int .u64 (lo : Int)]) ∧ w' = w1) := MUL
      have A1 := fun w => add64N lo c 0 (by omega) w
      obtain ⟨l1, hl1⟩ : ∃ l1, l1 = (lo + c + 0) % 18446744073709551616 := ⟨_, rfl⟩
      obtain ⟨m1, hm1⟩ : ∃ m1, m1 = (lo + c + 0) / 18446744073709551616 := ⟨_, rfl⟩
      rw [← hl1, ← hm1] at A1
      have A1' : Hid (∀ w, (callFunc 136 #[.int .u64 (lo : Int), .int .u64 (c : Int), .int .u64 0]).run Tryz.prog w = .ok (.value (.tuple #[.int .u64 (l1 : Int), .int .u64 (m1 : Int)])) w) := A1
      obtain ⟨nw, bo, q1, q2, q3, q4, S⟩ := sub64B ok l1 bok (by omega)
      have S' : Hid (∀ w, (callFunc 134 #[.int .u64 (ok : Int), .int .u64 (l1 : Int), .int .u64 0]).run Tryz.prog w = .ok (.value (.tuple #[.int .u64 (nw : Int), .int .u64 (bo : Int)])) w) := S
      have NX' : Hid (TakAt ys (zs.set (k + j) nw) zs0 k (j + 1) x (hi + m1 + bo) N) := hA.out.next (by omega) hok hyk q1 (by rw [← hmm]; omega) q3
      have b1 : hi + m1 + bo < 18446744073709551616 := by
        by_cases z : l1 = 0
        · have := q4 z; omega
        · omega
      have b2 : hi + m1 < 18446744073709551616 := by omega
      clear A1 MUL hhi hlo hl1 hm1 hm hmm S q1 q4 hyk hok hc2
      have i1 : (j : Int) < (n2 : Int) := by omega
      go_wp2_with (first | (simp only [A1'.out]) | (simp only [S'.out]) | (go_at_call 135; with_reducible refine (M.out _).mono ?_; rintro e w' ⟨rfl, rfl⟩))
      go_roundw
      case rel => exact ⟨j + 1, hi + m1 + bo, _, by omega, b1, by go_num, by go_num, owns_set hown (k + j) nw, NX'.out, ⟨hg.out.1.setCell hsz _, hg.out.2.setCell rfl _⟩⟩
      case measure => simp only [intOf]; omega
    · have hk2 : j = n2 := by omega
      subst hk2
      have hcell3 := owns_cell hown (k + j) (by omega)
      have hfz := hown.frozenAt (k + j)
      obtain ⟨ok, hok⟩ : ∃ ok, ok = zs.getD (k + j) 0 := ⟨_, rfl⟩
      rw [← hok] at hcell3
      have bok : ok < 18446744073709551616 := hok ▸ getD_lt (by omega) hA.out.lt (k + j)
      obtain ⟨nw, bo, q1, q2, q3, q4, S⟩ := sub64B ok c bok hc
      have S' : Hid (∀ w, (callFunc 134 #[.int .u64 (ok : Int), .int .u64 (c : Int), .int .u64 0]).run Tryz.prog w = .ok (.value (.tuple #[.int .u64 (nw : Int), .int .u64 (bo : Int)])) w) := S
      have F : Hid _ := hA.out.last (by omega) hok q1 (by rw [RY.out.len]; exact Nat.le_refl _) q3
      clear S q1 q3 q4 hok
      go_wp2_with (first | (simp only [S'.out]))
      go_ret
      exact ⟨bo, _, rfl, q2, F.out, owns_set hown (k + j) nw, ⟨hg.out.1.setCell hsz _, hg.out.2.setCell rfl _⟩⟩
end Go.Proofs.YthilajhciifhaaaGreatDoor
namespace Go.Proofs.YthilajhciifhaaaGreatDoor
open Go.RowKit
set_option linter.unusedVariables false

set_option maxHeartbeats 1600000 in
/-- copyPlus into the row that is added to -/
theorem copyPlusA (g N k cp : Nat) (ad2 : Option Addr) (n2 c2 : Nat) (ys zs0 : List Nat) (w0 w : World) (ry : Row w0 ad2 n2 c2 ys) (hy : ∀ x ∈ ys, x < 18446744073709551616) (h0 : ∀ z ∈ zs0, z < 18446744073709551616)
    (hkN : k + n2 + 1 ≤ N) (hNm : N ≤ 4398046511104) (hcp : n2 + 1 ≤ cp) (hg0 : Gr w0 w) (hsz : w0.heap.size ≤ g) (how : w.ownsRow g 49 1 (.slice (some ⟨g, 0, none⟩) N N) N (u64s zs0)) :
    Calls Tryz.prog 88 #[.slice (some ⟨g, k, none⟩) ((n2 : Nat) + 1) cp, .slice (some ⟨g, k, none⟩) ((n2 : Nat) + 1) cp, .slice ad2 n2 c2] w fun e w' => ∃ (c : Nat) (zs : List Nat), e = .returned (.int .u64 (c : Int)) ∧ c ≤ 1 ∧ PutAt ys zs zs0 k (n2 + 1) c N ∧ w'.ownsRow g 49 1 (.slice (some ⟨g, 0, none⟩) N N) N (u64s zs) ∧ Gr w0 w' ∧ Gx g w w' := by
  have RY : Hid (Row w0 ad2 n2 c2 ys) := ry
  have HY : Hid (∀ x ∈ ys, x < 18446744073709551616) := hy
  have H0 : Hid (∀ x ∈ zs0, x < 18446744073709551616) := h0
  have HG : Hid (Gr w0 w ∧ Gx g w w) := ⟨hg0, Gx.refl g w⟩
  have hl2 := ry.le
  clear ry hy hg0 h0
  go_enter Tryz.func88, Tryz.ntmps88
  go_wp2
  go_loopw [7, 13] (fun cr i wr => ∃ (j c : Nat) (zs : List Nat), j ≤ n2 ∧ c ≤ 1 ∧ i = .int .i64 (j : Int) ∧ cr = .int .u64 (c : Int) ∧ wr.ownsRow g 49 1 (.slice (some ⟨g, 0, none⟩) N N) N (u64s zs) ∧ Hid (PutAt ys zs zs0 k j c N) ∧ Hid (Gr w0 wr ∧ Gx g w wr)) (fun _ i _ => n2 - (intOf i).toNat)
  case atStart => exact ⟨0, 0, zs0, by omega, by omega, rfl, rfl, how, PutAt.start (owns_len how) H0.out, HG⟩
  case round =>
    obtain ⟨j, c, zs, hj, hc, rfl, rfl, hown, hA, hg⟩ := hrel
    by_cases hlt : j < n2
    · obtain ⟨p2, o2, rfl, hp2, hc2⟩ := RY.out.lt (by omega)
      have hcell2 := hc2 wr hg.out.1 j hlt
      have hcell3 := owns_cell hown (k + j) (by omega)
      have hfz := hown.frozenAt (k + j)
      obtain ⟨yk, hyk⟩ : ∃ yk, yk = ys.getD j 0 := ⟨_, rfl⟩
      obtain ⟨ok, hok⟩ : ∃ ok, ok = zs.getD (k + j) 0 := ⟨_, rfl⟩
      rw [← hyk] at hcell2
      rw [← hok] at hcell3
      have byk : yk < 18446744073709551616 := hyk ▸ getD_lt (by omega) HY.out j
      have bok : ok < 18446744073709551616 := hok ▸ getD_lt (by omega) hA.out.lt (k + j)
      have A : Hid (∀ w, (callFunc 136 #[.int .u64 (ok : Int), .int .u64 (yk : Int), .int .u64 (c : Int)]).run Tryz.prog w = .ok (.value (.tuple #[.int .u64 (((ok + yk + c) % 18446744073709551616 : Nat) : Int), .int .u64 (((ok + yk + c) / 18446744073709551616 : Nat) : Int)])) w) := fun w => add64N ok yk c hc w
      have i1 : (j : Int) < (n2 : Int) := by omega
      have i2 : (j : Int) < (n2 : Int) + 1 := by omega
      have NX := hA.out.next (by omega) hok hyk
      clear hok hyk hc2
      generalize hs : (ok + yk + c) % 18446744073709551616 = sv at A NX
      generalize hd : (ok + yk + c) / 18446744073709551616 = dv at A NX
      have hd1 : dv ≤ 1 := by omega
      have NX' : Hid (PutAt ys (zs.set (k + j) sv) zs0 k (j + 1) dv N) := NX
      clear hs hd NX
      go_wp2_with (simp only [A.out])
      go_roundw
      case rel => exact ⟨j + 1, dv, _, by omega, hd1, by go_num, rfl, owns_set hown (k + j) sv, NX'.out, ⟨hg.out.1.setCell hsz _, hg.out.2.setCell rfl _⟩⟩
      case measure => simp only [intOf]; omega
    · have hk2 : j = n2 := by omega
      subst hk2
      obtain ⟨wo, rfl⟩ : ∃ wo : World, wo = wr := ⟨_, rfl⟩
      go_wp2
      go_loopw [7, 10] (fun cr i wr => ∃ (l c : Nat) (zs : List Nat), j ≤ l ∧ l ≤ j + 1 ∧ c ≤ 1 ∧ i = .int .i64 (l : Int) ∧ cr = .int .u64 (c : Int) ∧ wr.ownsRow g 49 1 (.slice (some ⟨g, 0, none⟩) N N) N (u64s zs) ∧ Hid (PutAt ys zs zs0 k l c N) ∧ Hid (Gr w0 wr ∧ Gx g w wr)) (fun _ i _ => j + 1 - (intOf i).toNat)
      case atStart => exact ⟨j, c, zs, by omega, by omega, hc, rfl, rfl, hown, hA, hg⟩
      case round =>
        clear hown hA hg
        obtain ⟨l, c, zs, hjl, hl, hc, rfl, rfl, hown, hA, hg⟩ := hrel
        by_cases hlt2 : l < j + 1
        · have hcell3 := owns_cell hown (k + l) (by omega)
          have hfz := hown.frozenAt (k + l)
          obtain ⟨ok, hok⟩ : ∃ ok, ok = zs.getD (k + l) 0 := ⟨_, rfl⟩
          have hyk : 0 = ys.getD l 0 := (getD_out (by rw [RY.out.len]; exact hjl)).symm
          rw [← hok] at hcell3
          have bok : ok < 18446744073709551616 := hok ▸ getD_lt (by omega) hA.out.lt (k + l)
          have A : Hid (∀ w, (callFunc 136 #[.int .u64 (ok : Int), .int .u64 0, .int .u64 (c : Int)]).run Tryz.prog w = .ok (.value (.tuple #[.int .u64 (((ok + 0 + c) % 18446744073709551616 : Nat) : Int), .int .u64 (((ok + 0 + c) / 18446744073709551616 : Nat) : Int)])) w) := fun w => add64N ok 0 c hc w
          have i2 : (l : Int) < (j : Int) + 1 := by omega
          have NX := hA.out.next (by omega) hok hyk
          clear hok hyk
          generalize hs : (ok + 0 + c) % 18446744073709551616 = sv at A NX
          generalize hd : (ok + 0 + c) / 18446744073709551616 = dv at A NX
          have hd1 : dv ≤ 1 := by omega
          have NX' : Hid (PutAt ys (zs.set (k + l) sv) zs0 k (l + 1) dv N) := NX
          clear hs hd NX
          go_wp2_with (simp only [A.out])
          go_roundw
          case rel => exact ⟨l + 1, dv, _, by omega, by omega, hd1, by go_num, rfl, owns_set hown (k + l) sv, NX'.out, ⟨hg.out.1.setCell hsz _, hg.out.2.setCell rfl _⟩⟩
          case measure => simp only [intOf]; omega
        · have hj2 : l = j + 1 := by omega
          subst hj2
          go_wp2
          go_ret
          exact ⟨c, zs, rfl, hc, hA.out, hown, hg.out⟩
end Go.Proofs.YthilajhciifhaaaGreatDoor
