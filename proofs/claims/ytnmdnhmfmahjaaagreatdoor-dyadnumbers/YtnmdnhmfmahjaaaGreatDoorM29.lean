import Derived.Test.YtnmdnhmfmahjaaaGreatDoorM28
import Derived.Test.YtnmdnhmfmahjaaaGreatDoorM23
import Derived.Deep.RegionHeld3
namespace Go.Proofs.YtnmdnhmfmahjaaaGreatDoor
open Go.RowKit
set_option linter.unusedVariables false

set_option maxRecDepth 10000 in
set_option maxHeartbeats 1600000 in
theorem rootA (s up : Bool) (ad : Option Addr) (n cap : Nat) (e last : Int) (w : World) (R : Hid (∀ w1, Gr w w1 → Calls Tryz.prog 27 #[.agg #[.bool s, .slice ad n cap, .int .i64 e]] w1 fun r w' => r = .returned (.bool false) ∧ Gr w1 w')) :
    Calls Tryz.prog 14 #[.agg #[.bool s, .slice ad n cap, .int .i64 e], .int .i64 last, .bool up] w fun r w' => r = .returned (.tuple #[zeroD, .int .i64 2]) ∧ Gr w w' := by
  have TB : Hid _ := two_blocks w (.bool s) (.slice ad n cap) (.int .i64 e) (.bool false) (.slice none 0 0) (.int .i64 0) _ rfl
  have kb0 : Hid _ := second_block w (.cells #[.bool s, .slice ad n cap, .int .i64 e] 24) (.cells #[.bool false, .slice none 0 0, .int .i64 0] 24)
  go_enter Tryz.func14, Tryz.ntmps14
  go_wp2_with (first | (go_at_call 27; (with_reducible refine (R.out _ (gr2 _ _)).mono ?_); rintro r w1 ⟨rfl, g1⟩; have k := keep6 g1 TB.out; have k0 := k.1.1; have k1 := k.1.2.1; have k2 := k.1.2.2.1; have kb := g1.keepH kb0.out; obtain ⟨t0, t1, t2, u0, u1, u2⟩ := Out3.of kb))
  refine bodyPost_ret (v := .tuple #[zeroD, .int .i64 2]) ?_ rfl ⟨rfl, (((k.2).setCell (p := ⟨w.heap.size + 1, 0, none⟩) (Nat.le_succ _) _).setCell (p := ⟨w.heap.size + 1, 1, none⟩) (Nat.le_succ _) _).setCell (p := ⟨w.heap.size + 1, 2, none⟩) (Nat.le_succ _) _⟩
  simp [results, Tryz.results14, go_sem, t0, t1, t2, zeroD]
set_option maxRecDepth 10000 in
set_option maxHeartbeats 1600000 in
theorem rootN (up : Bool) (ad : Option Addr) (n cap : Nat) (e last : Int) (w : World) (R : Hid (∀ w1, Gr w w1 → Calls Tryz.prog 27 #[.agg #[.bool true, .slice ad n cap, .int .i64 e]] w1 fun r w' => r = .returned (.bool true) ∧ Gr w1 w')) :
    Calls Tryz.prog 14 #[.agg #[.bool true, .slice ad n cap, .int .i64 e], .int .i64 last, .bool up] w fun r w' => r = .returned (.tuple #[zeroD, .int .i64 2]) ∧ Gr w w' := by
  have TB : Hid _ := two_blocks w (.bool true) (.slice ad n cap) (.int .i64 e) (.bool false) (.slice none 0 0) (.int .i64 0) _ rfl
  have kb0 : Hid _ := second_block w (.cells #[.bool true, .slice ad n cap, .int .i64 e] 24) (.cells #[.bool false, .slice none 0 0, .int .i64 0] 24)
  go_enter Tryz.func14, Tryz.ntmps14
  go_wp2_with (first | (go_at_call 27; (with_reducible refine (R.out _ (gr2 _ _)).mono ?_); rintro r w1 ⟨rfl, g1⟩; have k := keep6 g1 TB.out; have k0 := k.1.1; have k1 := k.1.2.1; have k2 := k.1.2.2.1; have kb := g1.keepH kb0.out; obtain ⟨t0, t1, t2, u0, u1, u2⟩ := Out3.of kb))
  refine bodyPost_ret (v := .tuple #[zeroD, .int .i64 2]) ?_ rfl ⟨rfl, (((k.2).setCell (p := ⟨w.heap.size + 1, 0, none⟩) (Nat.le_succ _) _).setCell (p := ⟨w.heap.size + 1, 1, none⟩) (Nat.le_succ _) _).setCell (p := ⟨w.heap.size + 1, 2, none⟩) (Nat.le_succ _) _⟩
  simp [results, Tryz.results14, go_sem, t0, t1, t2, zeroD]
set_option maxRecDepth 10000 in
set_option maxHeartbeats 1600000 in
theorem rootB (up : Bool) (ad : Option Addr) (n cap : Nat) (e last : Int) (w : World) (R : Hid (∀ w1, Gr w w1 → Calls Tryz.prog 27 #[.agg #[.bool false, .slice ad n cap, .int .i64 e]] w1 fun r w' => r = .returned (.bool true) ∧ Gr w1 w')) (L : Hid (∀ w1, Calls Tryz.prog 37 #[.int .i64 last] w1 fun r w' => r = .returned (.bool false) ∧ w1 = w')) :
    Calls Tryz.prog 14 #[.agg #[.bool false, .slice ad n cap, .int .i64 e], .int .i64 last, .bool up] w fun r w' => r = .returned (.tuple #[zeroD, .int .i64 2]) ∧ Gr w w' := by
  have TB : Hid _ := two_blocks w (.bool false) (.slice ad n cap) (.int .i64 e) (.bool false) (.slice none 0 0) (.int .i64 0) _ rfl
  have kb0 : Hid _ := second_block w (.cells #[.bool false, .slice ad n cap, .int .i64 e] 24) (.cells #[.bool false, .slice none 0 0, .int .i64 0] 24)
  go_enter Tryz.func14, Tryz.ntmps14
  go_wp2_with (first | (go_at_call 27; (with_reducible refine (R.out _ (gr2 _ _)).mono ?_); rintro r w1 ⟨rfl, g1⟩; have k := keep6 g1 TB.out; have k0 := k.1.1; have k1 := k.1.2.1; have k2 := k.1.2.2.1; have kb := g1.keepH kb0.out; obtain ⟨t0, t1, t2, u0, u1, u2⟩ := Out3.of kb) | (go_at_call 37; (with_reducible refine (L.out _).mono ?_); rintro r w2 ⟨rfl, rfl⟩))
  refine bodyPost_ret (v := .tuple #[zeroD, .int .i64 2]) ?_ rfl ⟨rfl, (((k.2).setCell (p := ⟨w.heap.size + 1, 0, none⟩) (Nat.le_succ _) _).setCell (p := ⟨w.heap.size + 1, 1, none⟩) (Nat.le_succ _) _).setCell (p := ⟨w.heap.size + 1, 2, none⟩) (Nat.le_succ _) _⟩
  simp [results, Tryz.results14, go_sem, t0, t1, t2, zeroD]
set_option maxRecDepth 10000 in
set_option maxHeartbeats 1600000 in
theorem rrootA (s up : Bool) (ad : Option Addr) (n cap : Nat) (e last : Int) (w : World) (R : Hid (∀ w1, Gr w w1 → Calls Tryz.prog 32 #[.agg #[.bool s, .slice ad n cap, .int .i64 e]] w1 fun r w' => r = .returned (.bool false) ∧ Gr w1 w')) :
    Calls Tryz.prog 15 #[.agg #[.bool s, .slice ad n cap, .int .i64 e], .int .i64 last, .bool up] w fun r w' => r = .returned (.tuple #[zeroD, .int .i64 2]) ∧ Gr w w' := by
  have TB : Hid _ := two_blocks w (.bool s) (.slice ad n cap) (.int .i64 e) (.bool false) (.slice none 0 0) (.int .i64 0) _ rfl
  have kb0 : Hid _ := second_block w (.cells #[.bool s, .slice ad n cap, .int .i64 e] 24) (.cells #[.bool false, .slice none 0 0, .int .i64 0] 24)
  go_enter Tryz.func15, Tryz.ntmps15
  go_wp2_with (first | (go_at_call 32; (with_reducible refine (R.out _ (gr2 _ _)).mono ?_); rintro r w1 ⟨rfl, g1⟩; have k := keep6 g1 TB.out; have k0 := k.1.1; have k1 := k.1.2.1; have k2 := k.1.2.2.1; have kb := g1.keepH kb0.out; obtain ⟨t0, t1, t2, u0, u1, u2⟩ := Out3.of kb))
  refine bodyPost_ret (v := .tuple #[zeroD, .int .i64 2]) ?_ rfl ⟨rfl, (((k.2).setCell (p := ⟨w.heap.size + 1, 0, none⟩) (Nat.le_succ _) _).setCell (p := ⟨w.heap.size + 1, 1, none⟩) (Nat.le_succ _) _).setCell (p := ⟨w.heap.size + 1, 2, none⟩) (Nat.le_succ _) _⟩
  simp [results, Tryz.results15, go_sem, t0, t1, t2, zeroD]
set_option maxRecDepth 10000 in
set_option maxHeartbeats 1600000 in
theorem rrootN (up : Bool) (ad : Option Addr) (n cap : Nat) (e last : Int) (w : World) (R : Hid (∀ w1, Gr w w1 → Calls Tryz.prog 32 #[.agg #[.bool true, .slice ad n cap, .int .i64 e]] w1 fun r w' => r = .returned (.bool true) ∧ Gr w1 w')) :
    Calls Tryz.prog 15 #[.agg #[.bool true, .slice ad n cap, .int .i64 e], .int .i64 last, .bool up] w fun r w' => r = .returned (.tuple #[zeroD, .int .i64 2]) ∧ Gr w w' := by
  have TB : Hid _ := two_blocks w (.bool true) (.slice ad n cap) (.int .i64 e) (.bool false) (.slice none 0 0) (.int .i64 0) _ rfl
  have kb0 : Hid _ := second_block w (.cells #[.bool true, .slice ad n cap, .int .i64 e] 24) (.cells #[.bool false, .slice none 0 0, .int .i64 0] 24)
  go_enter Tryz.func15, Tryz.ntmps15
  go_wp2_with (first | (go_at_call 32; (with_reducible refine (R.out _ (gr2 _ _)).mono ?_); rintro r w1 ⟨rfl, g1⟩; have k := keep6 g1 TB.out; have k0 := k.1.1; have k1 := k.1.2.1; have k2 := k.1.2.2.1; have kb := g1.keepH kb0.out; obtain ⟨t0, t1, t2, u0, u1, u2⟩ := Out3.of kb))
  refine bodyPost_ret (v := .tuple #[zeroD, .int .i64 2]) ?_ rfl ⟨rfl, (((k.2).setCell (p := ⟨w.heap.size + 1, 0, none⟩) (Nat.le_succ _) _).setCell (p := ⟨w.heap.size + 1, 1, none⟩) (Nat.le_succ _) _).setCell (p := ⟨w.heap.size + 1, 2, none⟩) (Nat.le_succ _) _⟩
  simp [results, Tryz.results15, go_sem, t0, t1, t2, zeroD]
set_option maxRecDepth 10000 in
set_option maxHeartbeats 1600000 in
theorem rrootB (up : Bool) (ad : Option Addr) (n cap : Nat) (e last : Int) (w : World) (R : Hid (∀ w1, Gr w w1 → Calls Tryz.prog 32 #[.agg #[.bool false, .slice ad n cap, .int .i64 e]] w1 fun r w' => r = .returned (.bool true) ∧ Gr w1 w')) (L : Hid (∀ w1, Calls Tryz.prog 41 #[.int .i64 last] w1 fun r w' => r = .returned (.bool false) ∧ w1 = w')) :
    Calls Tryz.prog 15 #[.agg #[.bool false, .slice ad n cap, .int .i64 e], .int .i64 last, .bool up] w fun r w' => r = .returned (.tuple #[zeroD, .int .i64 2]) ∧ Gr w w' := by
  have TB : Hid _ := two_blocks w (.bool false) (.slice ad n cap) (.int .i64 e) (.bool false) (.slice none 0 0) (.int .i64 0) _ rfl
  have kb0 : Hid _ := second_block w (.cells #[.bool false, .slice ad n cap, .int .i64 e] 24) (.cells #[.bool false, .slice none 0 0, .int .i64 0] 24)
  go_enter Tryz.func15, Tryz.ntmps15
  go_wp2_with (first | (go_at_call 32; (with_reducible refine (R.out _ (gr2 _ _)).mono ?_); rintro r w1 ⟨rfl, g1⟩; have k := keep6 g1 TB.out; have k0 := k.1.1; have k1 := k.1.2.1; have k2 := k.1.2.2.1; have kb := g1.keepH kb0.out; obtain ⟨t0, t1, t2, u0, u1, u2⟩ := Out3.of kb) | (go_at_call 41; (with_reducible refine (L.out _).mono ?_); rintro r w2 ⟨rfl, rfl⟩))
  refine bodyPost_ret (v := .tuple #[zeroD, .int .i64 2]) ?_ rfl ⟨rfl, (((k.2).setCell (p := ⟨w.heap.size + 1, 0, none⟩) (Nat.le_succ _) _).setCell (p := ⟨w.heap.size + 1, 1, none⟩) (Nat.le_succ _) _).setCell (p := ⟨w.heap.size + 1, 2, none⟩) (Nat.le_succ _) _⟩
  simp [results, Tryz.results15, go_sem, t0, t1, t2, zeroD]
set_option maxHeartbeats 1600000 in
/-- Root of nought -/
theorem root_z (up : Bool) (ad : Option Addr) (cap x : Nat) (e last : Int) (w : World) (dx : DyAt w false ad 0 cap e x) (l1 : -1048576 ≤ last) (l2 : last ≤ 1048576) :
    Calls Tryz.prog 14 #[.agg #[.bool false, .slice ad 0 cap, .int .i64 e], .int .i64 last, .bool up] w fun r w' => r = .returned (.tuple #[.agg #[.bool false, .slice none 0 0, .int .i64 0], .int .i64 0]) ∧ Gr w w' := by
  have R15 := dx.r26
  have H36 : Hid (∀ w1, Calls Tryz.prog 37 #[.int .i64 last] w1 fun r w' => r = .returned (.bool true) ∧ w' = w1) := fun w1 => by
    have := rightExp36 last w1
    rw [show decide (-1048576 ≤ last ∧ last ≤ 1048576) = true by simp; omega] at this
    exact this
  clear dx
  have TB : Hid _ := two_blocks w (.bool false) (.slice ad 0 cap) (.int .i64 e) (.bool false) (.slice none 0 0) (.int .i64 0) _ rfl
  have kb0 : Hid _ := second_block w (.cells #[.bool false, .slice ad 0 cap, .int .i64 e] 24) (.cells #[.bool false, .slice none 0 0, .int .i64 0] 24)
  go_enter Tryz.func14, Tryz.ntmps14
  go_wp2_with (first | (go_at_call 27; (with_reducible refine (R15.out _ (gr2 _ _)).mono ?_); rintro r w1 ⟨rfl, g1⟩; have k := keep6 g1 TB.out; have k0 := k.1.1; have k1 := k.1.2.1; have k2 := k.1.2.2.1; have kb := g1.keepH kb0.out; obtain ⟨t0, t1, t2, u0, u1, u2⟩ := Out3.of kb) | (go_at_call 37; (with_reducible refine (H36.out _).mono ?_); rintro r w2 ⟨rfl, rfl⟩))
  refine bodyPost_ret (v := .tuple #[.agg #[.bool false, .slice none 0 0, .int .i64 0], .int .i64 0]) ?_ rfl ⟨rfl, ?_⟩
  · simp [results, Tryz.results14, go_sem, t0, t1, t2]
  · first | exact k.2 | exact k.2.drew | exact ((k.2.setCell (p := ⟨w.heap.size + 1, 0, none⟩) (Nat.le_succ _) _).setCell (p := ⟨w.heap.size + 1, 1, none⟩) (Nat.le_succ _) _).setCell (p := ⟨w.heap.size + 1, 2, none⟩) (Nat.le_succ _) _
set_option maxHeartbeats 1600000 in
/-- a root that is too long -/
theorem root_l (up : Bool) (ad : Option Addr) (n cap x : Nat) (e last pw : Int) (w : World) (dx : DyAt w false ad (n + 1) cap e x) (l1 : -1048576 ≤ last) (l2 : last ≤ 1048576) (hpw : e - 2 * last = pw) (hbits : (bl x : Int) + pw > 524288) :
    Calls Tryz.prog 14 #[.agg #[.bool false, .slice ad (n + 1) cap, .int .i64 e], .int .i64 last, .bool up] w fun r w' => r = .returned (.tuple #[zeroD, .int .i64 3]) ∧ Gr w w' := by
  have R15 := dx.r26
  have e1 := dx.low
  have e2 := dx.high
  have x0 : 0 < x := Nat.pos_of_ne_zero fun h => by
    have := dx.lim
    rw [h] at this
    have := lim_zero this
    omega
  have b1 := dx.le
  have H36 : Hid (∀ w1, Calls Tryz.prog 37 #[.int .i64 last] w1 fun r w' => r = .returned (.bool true) ∧ w' = w1) := fun w1 => by
    have := rightExp36 last w1
    rw [show decide (-1048576 ≤ last ∧ last ≤ 1048576) = true by simp; omega] at this
    exact this
  have hbl : bl x ≤ 262144 := by
    obtain ⟨xs, r, d⟩ := dx.lim
    have := bl_len d
    rw [r.len] at this
    omega
  have H40 : Hid (∀ w1, Gr w w1 → Calls Tryz.prog 28 #[.slice ad (n + 1) cap] w1 fun r w' => r = .returned (.int .i64 (bl x : Int)) ∧ Gr w1 w') := fun w1 g => bitLength40 ad (n + 1) cap x w1 (dx.lim.gr g) x0 (by omega)
  have p1 : -3145728 ≤ pw := by omega
  have p2 : pw ≤ 3145728 := by omega
  clear dx x0
  generalize bl x = bx' at *
  have TB : Hid _ := two_blocks w (.bool false) (.slice ad (n + 1) cap) (.int .i64 e) (.bool false) (.slice none 0 0) (.int .i64 0) _ rfl
  have kb0 : Hid _ := second_block w (.cells #[.bool false, .slice ad (n + 1) cap, .int .i64 e] 24) (.cells #[.bool false, .slice none 0 0, .int .i64 0] 24)
  have z1 : ((n : Int) + 1 == 0) = false := by simp; omega
  go_enter Tryz.func14, Tryz.ntmps14
  go_wp2_with (first | (go_at_call 27; (with_reducible refine (R15.out _ (gr2 _ _)).mono ?_); rintro r w1 ⟨rfl, g1⟩; have k := keep6 g1 TB.out; have k0 := k.1.1; have k1 := k.1.2.1; have k2 := k.1.2.2.1; have kb := g1.keepH kb0.out) | (go_at_call 37; (with_reducible refine (H36.out _).mono ?_); rintro r w2 ⟨rfl, rfl⟩) | (go_at_call 28; (with_reducible refine (H40.out _ k.2).mono ?_); rintro r w3 ⟨rfl, g3⟩; have kb3 := g3.keepH kb; clear k0 k1 k2; obtain ⟨t0, t1, t2, u0, u1, u2⟩ := Out3.of kb3))
  refine bodyPost_ret (v := .tuple #[zeroD, .int .i64 3]) ?_ rfl ⟨rfl, (((k.2.trans g3).setCell (p := ⟨w.heap.size + 1, 0, none⟩) (Nat.le_succ _) _).setCell (p := ⟨w.heap.size + 1, 1, none⟩) (Nat.le_succ _) _).setCell (p := ⟨w.heap.size + 1, 2, none⟩) (Nat.le_succ _) _⟩
  simp [results, Tryz.results14, go_sem, t0, t1, t2, zeroD]
/-- what the root is of, in whole units of its square -/
def RM (x : Nat) (pw : Int) : Nat := if pw < 0 then x / 2 ^ (-pw).toNat else x * 2 ^ pw.toNat
def RUp (x : Nat) (pw : Int) (R : Nat) (up : Bool) : Nat := if up = true ∧ ¬ (R * R = RM x pw ∧ 0 ≤ pw) then R + 1 else R
/-- Root, of any right dyad above 0 that is not too long -/
theorem root_p (up : Bool) (ad : Option Addr) (n cap x R : Nat) (e last : Int) (w : World) (dx : DyAt w false ad (n + 1) cap e x) (hT : TabAt 1 Lib.deBruijn64tab w) (l1 : -1048576 ≤ last) (l2 : last ≤ 1048576) (hbits : ¬ (bl x : Int) + (e - 2 * last) > 524288) (r1 : R * R ≤ RM x (e - 2 * last)) (r2 : RM x (e - 2 * last) < (R + 1) * (R + 1)) :
    Calls Tryz.prog 14 #[.agg #[.bool false, .slice ad (n + 1) cap, .int .i64 e], .int .i64 last, .bool up] w fun r w' => Settled w' r false (RUp x (e - 2 * last) R up) last ∧ Gr w w' := by
  have e1 := dx.low
  have e2 := dx.high
  have b1 := dx.le
  unfold RUp
  have x0 : 0 < bl x := Nat.pos_of_ne_zero fun h => by
    have := dx.lim
    rw [bl_zero_iff.1 h] at this
    have := lim_zero this
    omega
  rcases Int.lt_or_le (e - 2 * last) 0 with hp | hp
  · obtain ⟨k, hk⟩ : ∃ k : Nat, e - 2 * last = -(k : Int) := ⟨(-(e - 2 * last)).toNat, by omega⟩
    have eM : RM x (e - 2 * last) = x / 2 ^ k := by
      unfold RM
      rw [if_pos hp, show (-(e - 2 * last)).toNat = k by omega]
    rw [eM] at r1 r2
    have SH : Hid (∀ w1, Gr w w1 → Calls Tryz.prog 46 #[.slice ad (n + 1) cap, .int .i64 (e - 2 * last)] w1 fun r w' => ∃ a4 n4 c4, r = .returned (.slice a4 n4 c4) ∧ n4 ≤ 1073741824 ∧ Hid (Lim w' a4 n4 c4 18446744073709551616 (x / 2 ^ k)) ∧ Gr w1 w') := fun w1 g => by
      refine (shiftDn ad (n + 1) cap x k w1 (dx.lim.gr g) (by omega) (by omega) (by omega) _ hk).mono ?_
      rintro r w' ⟨a, n', c, rfl, h2, h3, h4⟩
      exact ⟨a, n', c, rfl, by omega, h3, h4⟩
    cases up
    · rw [if_neg (by simp)]
      exact root_d (decide (R * R = x / 2 ^ k)) ad n cap x (x / 2 ^ k) R e last _ w dx hT l1 l2 rfl hbits SH r1 r2 rfl
    · rw [if_pos ⟨rfl, fun h => by omega⟩]
      by_cases hd : R * R = x / 2 ^ k
      · exact root_n ad n cap x (x / 2 ^ k) R e last _ w dx hT l1 l2 rfl hbits hp SH r1 r2 (by simp [hd])
      · exact root_u ad n cap x (x / 2 ^ k) R e last _ w dx hT l1 l2 rfl hbits SH r1 r2 (by simp [hd])
  · obtain ⟨k, hk⟩ : ∃ k : Nat, e - 2 * last = (k : Int) := ⟨(e - 2 * last).toNat, by omega⟩
    have eM : RM x (e - 2 * last) = x * 2 ^ k := by
      unfold RM
      rw [if_neg (by omega), show (e - 2 * last).toNat = k by omega]
    rw [eM] at r1 r2
    rw [eM]
    have SH : Hid (∀ w1, Gr w w1 → Calls Tryz.prog 46 #[.slice ad (n + 1) cap, .int .i64 (e - 2 * last)] w1 fun r w' => ∃ a4 n4 c4, r = .returned (.slice a4 n4 c4) ∧ n4 ≤ 1073741824 ∧ Hid (Lim w' a4 n4 c4 18446744073709551616 (x * 2 ^ k)) ∧ Gr w1 w') := fun w1 g => by
      rw [hk]
      refine (shift42 ad (n + 1) cap x k w1 (dx.lim.gr g) (by omega) (by omega)).mono ?_
      rintro r w' ⟨a, n', c, rfl, h2, h3, h4⟩
      exact ⟨a, n', c, rfl, by omega, h3, h4⟩
    cases up
    · rw [if_neg (by simp)]
      exact root_d (decide (R * R = x * 2 ^ k)) ad n cap x (x * 2 ^ k) R e last _ w dx hT l1 l2 rfl hbits SH r1 r2 rfl
    · by_cases hd : R * R = x * 2 ^ k
      · rw [if_neg (fun h => h.2 ⟨hd, by omega⟩)]
        exact root_e ad n cap x (x * 2 ^ k) R e last _ w dx hT l1 l2 rfl hbits hp SH r1 r2 (by simp [hd])
      · rw [if_pos ⟨rfl, fun h => hd h.1⟩]
        exact root_u ad n cap x (x * 2 ^ k) R e last _ w dx hT l1 l2 rfl hbits SH r1 r2 (by simp [hd])
end Go.Proofs.YtnmdnhmfmahjaaaGreatDoor
namespace Go.Proofs.YtnmdnhmfmahjaaaGreatDoor
open Go.RowKit
set_option linter.unusedVariables false
set_option linter.unusedSimpArgs false

theorem keepZ {W wo wn : World} {p q : Nat} {a0 a1 a2 b0 b1 b2 : Value} (g : Gr wo wn) (h : (wo.cell? ⟨p, 0, none⟩ = some a0 ∧ wo.cell? ⟨p, 1, none⟩ = some a1 ∧ wo.cell? ⟨p, 2, none⟩ = some a2 ∧ wo.cell? ⟨q, 0, none⟩ = some b0 ∧ wo.cell? ⟨q, 1, none⟩ = some b1 ∧ wo.cell? ⟨q, 2, none⟩ = some b2) ∧ Gr W wo) : (wn.cell? ⟨p, 0, none⟩ = some a0 ∧ wn.cell? ⟨p, 1, none⟩ = some a1 ∧ wn.cell? ⟨p, 2, none⟩ = some a2 ∧ wn.cell? ⟨q, 0, none⟩ = some b0 ∧ wn.cell? ⟨q, 1, none⟩ = some b1 ∧ wn.cell? ⟨q, 2, none⟩ = some b2) ∧ Gr W wn :=
  ⟨⟨g.keep h.1.1, g.keep h.1.2.1, g.keep h.1.2.2.1, g.keep h.1.2.2.2.1, g.keep h.1.2.2.2.2.1, g.keep h.1.2.2.2.2.2⟩, h.2.trans g⟩
def R8 (t0 t1 t3 t4 t5 t6 t7 t9 t11 t12 t13 t14 t15 t16 t17 t18 t19 t20 t21 t22 t23 t24 t25 t26 t27 t28 t29 t30 t31 t32 t33 t34 t35 t36 t37 t38 t39 t40 t41 t42 t43 t44 t45 t46 t47 t48 t49 t50 t51 t52 t53 t54 t55 t56 t57 t58 t59 t60 t61 t62 t63 t64 t65 : Value) (bX bR : Nat) (up b : Bool) (wq : World) : Exit → Act → World → Prop
  | .normal, a, w => ∃ u50 u51 u52 u53 u54 u55, a = { tmps := #[t0, t1, .bool up, t3, t4, t5, t6, t7, .pointer (some ⟨bX, 0, none⟩), t9, .pointer (some ⟨bR, 0, none⟩), t11, t12, t13, t14, t15, t16, t17, t18, t19, t20, t21, t22, t23, t24, t25, t26, t27, t28, t29, t30, t31, t32, t33, t34, t35, t36, t37, t38, t39, t40, t41, t42, t43, t44, t45, t46, t47, .bool up, .bool up, u50, u51, u52, u53, u54, u55, .bool b, t57, t58, t59, t60, t61, t62, t63, t64, t65], defers := [] } ∧ Gr wq w
  | _, _, _ => False
set_option maxRecDepth 100000 in
set_option maxHeartbeats 20000000 in
theorem reg8f (t0 t1 t3 t4 t5 t6 t7 t9 t11 t12 t13 t14 t15 t16 t17 t18 t19 t20 t21 t22 t23 t24 t25 t26 t27 t28 t29 t30 t31 t32 t33 t34 t35 t36 t37 t38 t39 t40 t41 t42 t43 t44 t45 t46 t47 t48 t49 t50 t51 t52 t53 t54 t55 t56 t57 t58 t59 t60 t61 t62 t63 t64 t65 : Value) (bX bR : Nat) (wq : World) :
    Code.wp Tryz.prog (Code.region 8 #[{ dst := some 48, op := Op.move (Operand.tmp 2), type := 4, pos := "ref.go:118", after := #[], guard := none }, { dst := some 49, op := Op.move (Operand.tmp 48), type := 4, pos := "ref.go:118", after := #[{ on := 0, ground := Ground.data }], guard := none }, { dst := some 50, op := Op.load 54 (Operand.tmp 10), type := 54, pos := "ref.go:118", after := #[{ on := 1, ground := Ground.guard }], guard := some (1, true) }, { dst := some 51, op := Op.load 54 (Operand.tmp 10), type := 54, pos := "ref.go:118", after := #[{ on := 1, ground := Ground.guard }], guard := some (1, true) }, { dst := some 52, op := Op.call { callee := Callee.value (Operand.func 52), args := #[Operand.tmp 50, Operand.tmp 51], argTypes := #[54, 54] }, type := 54, pos := "ref.go:118", after := #[{ on := 2, ground := Ground.data }, { on := 3, ground := Ground.data }, { on := 1, ground := Ground.chain }, { on := 1, ground := Ground.guard }], guard := some (1, true) }, { dst := some 53, op := Op.load 54 (Operand.tmp 8), type := 54, pos := "ref.go:118", after := #[{ on := 1, ground := Ground.guard }], guard := some (1, true) }, { dst := some 54, op := Op.call { callee := Callee.value (Operand.func 51), args := #[Operand.tmp 52, Operand.tmp 53], argTypes := #[54, 54] }, type := 3, pos := "ref.go:118", after := #[{ on := 4, ground := Ground.data }, { on := 5, ground := Ground.data }, { on := 4, ground := Ground.chain }, { on := 1, ground := Ground.guard }], guard := some (1, true) }, { dst := some 55, op := Op.binOp BinOp.lss 3 (Operand.tmp 54) (Operand.const (Value.int IntKind.i64 0)) 3, type := 4, pos := "ref.go:118", after := #[{ on := 6, ground := Ground.data }, { on := 1, ground := Ground.guard }], guard := some (1, true) }, { dst := some 56, op := Op.pick (Operand.tmp 49) (Operand.tmp 55) (Operand.const (Value.bool false)), type := 4, pos := "ref.go:118", after := #[{ on := 1, ground := Ground.data }, { on := 7, ground := Ground.data }], guard := none }] true) (R8 t0 t1 t3 t4 t5 t6 t7 t9 t11 t12 t13 t14 t15 t16 t17 t18 t19 t20 t21 t22 t23 t24 t25 t26 t27 t28 t29 t30 t31 t32 t33 t34 t35 t36 t37 t38 t39 t40 t41 t42 t43 t44 t45 t46 t47 t48 t49 t50 t51 t52 t53 t54 t55 t56 t57 t58 t59 t60 t61 t62 t63 t64 t65 bX bR false false wq) { tmps := #[t0, t1, .bool false, t3, t4, t5, t6, t7, .pointer (some ⟨bX, 0, none⟩), t9, .pointer (some ⟨bR, 0, none⟩), t11, t12, t13, t14, t15, t16, t17, t18, t19, t20, t21, t22, t23, t24, t25, t26, t27, t28, t29, t30, t31, t32, t33, t34, t35, t36, t37, t38, t39, t40, t41, t42, t43, t44, t45, t46, t47, t48, t49, t50, t51, t52, t53, t54, t55, t56, t57, t58, t59, t60, t61, t62, t63, t64, t65], defers := [] } wq := by
  have hS0 : Gr wq wq.drew := (Gr.refl wq).drew
  refine wp_region_held_drew (S := fun w' => Gr wq w') (by kernel_rfl) hS0 (fun hHeld => ?_)
  refine wpAnyH_take (i := 0) (oi := ({ dst := some 48, op := Op.move (Operand.tmp 2), type := 4, pos := "ref.go:118", after := #[], guard := none } : Oper)) (v := ?_) rfl (by kernel_rfl) (by kernel_rfl) (by kernel_rfl) (fun _ _ _ h => h) (Or.inl ⟨by rfl, ?_⟩) (by with_reducible assumption) ?_
  rotate_left
  · intro w hSw
    (try dsimp only at hSw)
    first | (go_simp; done) | (go_simp; with_reducible rfl)
  (try simp only [Act.put, List.setIfInBounds_toArray, List.set_cons_zero, List.set_cons_succ])
  refine wpAnyH_take (i := 1) (oi := ({ dst := some 49, op := Op.move (Operand.tmp 48), type := 4, pos := "ref.go:118", after := #[{ on := 0, ground := Ground.data }], guard := none } : Oper)) (v := ?_) rfl (by kernel_rfl) (by kernel_rfl) (by kernel_rfl) (fun _ _ _ h => h) (Or.inl ⟨by rfl, ?_⟩) (by with_reducible assumption) ?_
  rotate_left
  · intro w hSw
    (try dsimp only at hSw)
    first | (go_simp; done) | (go_simp; with_reducible rfl)
  (try simp only [Act.put, List.setIfInBounds_toArray, List.set_cons_zero, List.set_cons_succ])
  refine wpAnyH_take (i := 2) (oi := ({ dst := some 50, op := Op.load 54 (Operand.tmp 10), type := 54, pos := "ref.go:118", after := #[{ on := 1, ground := Ground.guard }], guard := some (1, true) } : Oper)) (v := undef) rfl (by kernel_rfl) (by kernel_rfl) (by kernel_rfl) (fun _ _ _ h => h) (Or.inr ⟨by rfl, rfl⟩) (by with_reducible assumption) ?_
  (try simp only [Act.put, List.setIfInBounds_toArray, List.set_cons_zero, List.set_cons_succ])
  refine wpAnyH_take (i := 3) (oi := ({ dst := some 51, op := Op.load 54 (Operand.tmp 10), type := 54, pos := "ref.go:118", after := #[{ on := 1, ground := Ground.guard }], guard := some (1, true) } : Oper)) (v := undef) rfl (by kernel_rfl) (by kernel_rfl) (by kernel_rfl) (fun _ _ _ h => h) (Or.inr ⟨by rfl, rfl⟩) (by with_reducible assumption) ?_
  (try simp only [Act.put, List.setIfInBounds_toArray, List.set_cons_zero, List.set_cons_succ])
  refine wpAnyH_take (i := 4) (oi := ({ dst := some 52, op := Op.call { callee := Callee.value (Operand.func 52), args := #[Operand.tmp 50, Operand.tmp 51], argTypes := #[54, 54] }, type := 54, pos := "ref.go:118", after := #[{ on := 2, ground := Ground.data }, { on := 3, ground := Ground.data }, { on := 1, ground := Ground.chain }, { on := 1, ground := Ground.guard }], guard := some (1, true) } : Oper)) (v := undef) rfl (by kernel_rfl) (by kernel_rfl) (by kernel_rfl) (fun _ _ _ h => h) (Or.inr ⟨by rfl, rfl⟩) (by with_reducible assumption) ?_
  (try simp only [Act.put, List.setIfInBounds_toArray, List.set_cons_zero, List.set_cons_succ])
  refine wpAnyH_take (i := 5) (oi := ({ dst := some 53, op := Op.load 54 (Operand.tmp 8), type := 54, pos := "ref.go:118", after := #[{ on := 1, ground := Ground.guard }], guard := some (1, true) } : Oper)) (v := undef) rfl (by kernel_rfl) (by kernel_rfl) (by kernel_rfl) (fun _ _ _ h => h) (Or.inr ⟨by rfl, rfl⟩) (by with_reducible assumption) ?_
  (try simp only [Act.put, List.setIfInBounds_toArray, List.set_cons_zero, List.set_cons_succ])
  refine wpAnyH_take (i := 6) (oi := ({ dst := some 54, op := Op.call { callee := Callee.value (Operand.func 51), args := #[Operand.tmp 52, Operand.tmp 53], argTypes := #[54, 54] }, type := 3, pos := "ref.go:118", after := #[{ on := 4, ground := Ground.data }, { on := 5, ground := Ground.data }, { on := 4, ground := Ground.chain }, { on := 1, ground := Ground.guard }], guard := some (1, true) } : Oper)) (v := undef) rfl (by kernel_rfl) (by kernel_rfl) (by kernel_rfl) (fun _ _ _ h => h) (Or.inr ⟨by rfl, rfl⟩) (by with_reducible assumption) ?_
  (try simp only [Act.put, List.setIfInBounds_toArray, List.set_cons_zero, List.set_cons_succ])
  refine wpAnyH_take (i := 7) (oi := ({ dst := some 55, op := Op.binOp BinOp.lss 3 (Operand.tmp 54) (Operand.const (Value.int IntKind.i64 0)) 3, type := 4, pos := "ref.go:118", after := #[{ on := 6, ground := Ground.data }, { on := 1, ground := Ground.guard }], guard := some (1, true) } : Oper)) (v := undef) rfl (by kernel_rfl) (by kernel_rfl) (by kernel_rfl) (fun _ _ _ h => h) (Or.inr ⟨by rfl, rfl⟩) (by with_reducible assumption) ?_
  (try simp only [Act.put, List.setIfInBounds_toArray, List.set_cons_zero, List.set_cons_succ])
  refine wpAnyH_take (i := 8) (oi := ({ dst := some 56, op := Op.pick (Operand.tmp 49) (Operand.tmp 55) (Operand.const (Value.bool false)), type := 4, pos := "ref.go:118", after := #[{ on := 1, ground := Ground.data }, { on := 7, ground := Ground.data }], guard := none } : Oper)) (v := ?_) rfl (by kernel_rfl) (by kernel_rfl) (by kernel_rfl) (fun _ _ _ h => h) (Or.inl ⟨by rfl, ?_⟩) (by with_reducible assumption) ?_
  rotate_left
  · intro w hSw
    (try dsimp only at hSw)
    first | (go_simp; done) | (go_simp; with_reducible rfl)
  (try simp only [Act.put, List.setIfInBounds_toArray, List.set_cons_zero, List.set_cons_succ])
  refine wpAnyH_done (by kernel_rfl) ?_ _
  exact ⟨_, _, _, _, _, _, rfl, hHeld⟩
set_option maxRecDepth 100000 in
set_option maxHeartbeats 20000000 in
theorem reg8t (t0 t1 t3 t4 t5 t6 t7 t9 t11 t12 t13 t14 t15 t16 t17 t18 t19 t20 t21 t22 t23 t24 t25 t26 t27 t28 t29 t30 t31 t32 t33 t34 t35 t36 t37 t38 t39 t40 t41 t42 t43 t44 t45 t46 t47 t48 t49 t50 t51 t52 t53 t54 t55 t56 t57 t58 t59 t60 t61 t62 t63 t64 t65 : Value) (aR aX : Option Addr) (nR cR nX cX S : Nat) (pw v : Int) (bX bR : Nat) (wq : World)
    (r0 : wq.cell? ⟨bR, 0, none⟩ = some (.bool false)) (r1 : wq.cell? ⟨bR, 1, none⟩ = some (.slice aR nR cR)) (r2 : wq.cell? ⟨bR, 2, none⟩ = some (.int .i64 0)) (x0 : wq.cell? ⟨bX, 0, none⟩ = some (.bool false)) (x1 : wq.cell? ⟨bX, 1, none⟩ = some (.slice aX nX cX)) (x2 : wq.cell? ⟨bX, 2, none⟩ = some (.int .i64 pw))
    (HT : Hid (∀ w1, Gr wq w1 → Calls Tryz.prog 52 #[.agg #[.bool false, .slice aR nR cR, .int .i64 0], .agg #[.bool false, .slice aR nR cR, .int .i64 0]] w1 fun r w' => ∃ a n c, r = .returned (.agg #[.bool false, .slice a n c, .int .i64 0]) ∧ Hid (Lim w' a n c 18446744073709551616 S) ∧ Gr w1 w'))
    (HC : Hid (∀ a n c w1, Gr wq w1 → Lim w1 a n c 18446744073709551616 S → Calls Tryz.prog 51 #[.agg #[.bool false, .slice a n c, .int .i64 0], .agg #[.bool false, .slice aX nX cX, .int .i64 pw]] w1 fun r w' => r = .returned (.int .i64 v) ∧ Gr w1 w')) :
    Code.wp Tryz.prog (Code.region 8 #[{ dst := some 48, op := Op.move (Operand.tmp 2), type := 4, pos := "ref.go:118", after := #[], guard := none }, { dst := some 49, op := Op.move (Operand.tmp 48), type := 4, pos := "ref.go:118", after := #[{ on := 0, ground := Ground.data }], guard := none }, { dst := some 50, op := Op.load 54 (Operand.tmp 10), type := 54, pos := "ref.go:118", after := #[{ on := 1, ground := Ground.guard }], guard := some (1, true) }, { dst := some 51, op := Op.load 54 (Operand.tmp 10), type := 54, pos := "ref.go:118", after := #[{ on := 1, ground := Ground.guard }], guard := some (1, true) }, { dst := some 52, op := Op.call { callee := Callee.value (Operand.func 52), args := #[Operand.tmp 50, Operand.tmp 51], argTypes := #[54, 54] }, type := 54, pos := "ref.go:118", after := #[{ on := 2, ground := Ground.data }, { on := 3, ground := Ground.data }, { on := 1, ground := Ground.chain }, { on := 1, ground := Ground.guard }], guard := some (1, true) }, { dst := some 53, op := Op.load 54 (Operand.tmp 8), type := 54, pos := "ref.go:118", after := #[{ on := 1, ground := Ground.guard }], guard := some (1, true) }, { dst := some 54, op := Op.call { callee := Callee.value (Operand.func 51), args := #[Operand.tmp 52, Operand.tmp 53], argTypes := #[54, 54] }, type := 3, pos := "ref.go:118", after := #[{ on := 4, ground := Ground.data }, { on := 5, ground := Ground.data }, { on := 4, ground := Ground.chain }, { on := 1, ground := Ground.guard }], guard := some (1, true) }, { dst := some 55, op := Op.binOp BinOp.lss 3 (Operand.tmp 54) (Operand.const (Value.int IntKind.i64 0)) 3, type := 4, pos := "ref.go:118", after := #[{ on := 6, ground := Ground.data }, { on := 1, ground := Ground.guard }], guard := some (1, true) }, { dst := some 56, op := Op.pick (Operand.tmp 49) (Operand.tmp 55) (Operand.const (Value.bool false)), type := 4, pos := "ref.go:118", after := #[{ on := 1, ground := Ground.data }, { on := 7, ground := Ground.data }], guard := none }] true) (R8 t0 t1 t3 t4 t5 t6 t7 t9 t11 t12 t13 t14 t15 t16 t17 t18 t19 t20 t21 t22 t23 t24 t25 t26 t27 t28 t29 t30 t31 t32 t33 t34 t35 t36 t37 t38 t39 t40 t41 t42 t43 t44 t45 t46 t47 t48 t49 t50 t51 t52 t53 t54 t55 t56 t57 t58 t59 t60 t61 t62 t63 t64 t65 bX bR true (decide (v < 0)) wq) { tmps := #[t0, t1, .bool true, t3, t4, t5, t6, t7, .pointer (some ⟨bX, 0, none⟩), t9, .pointer (some ⟨bR, 0, none⟩), t11, t12, t13, t14, t15, t16, t17, t18, t19, t20, t21, t22, t23, t24, t25, t26, t27, t28, t29, t30, t31, t32, t33, t34, t35, t36, t37, t38, t39, t40, t41, t42, t43, t44, t45, t46, t47, t48, t49, t50, t51, t52, t53, t54, t55, t56, t57, t58, t59, t60, t61, t62, t63, t64, t65], defers := [] } wq := by
  have hS0 : (wq.drew.cell? ⟨bR, 0, none⟩ = some (.bool false) ∧ wq.drew.cell? ⟨bR, 1, none⟩ = some (.slice aR nR cR) ∧ wq.drew.cell? ⟨bR, 2, none⟩ = some (.int .i64 0) ∧ wq.drew.cell? ⟨bX, 0, none⟩ = some (.bool false) ∧ wq.drew.cell? ⟨bX, 1, none⟩ = some (.slice aX nX cX) ∧ wq.drew.cell? ⟨bX, 2, none⟩ = some (.int .i64 pw)) ∧ Gr wq wq.drew := ⟨⟨r0, r1, r2, x0, x1, x2⟩, (Gr.refl wq).drew⟩
  clear r0 r1 r2 x0 x1 x2
  refine wp_region_held_drew (S := fun w' => (w'.cell? ⟨bR, 0, none⟩ = some (.bool false) ∧ w'.cell? ⟨bR, 1, none⟩ = some (.slice aR nR cR) ∧ w'.cell? ⟨bR, 2, none⟩ = some (.int .i64 0) ∧ w'.cell? ⟨bX, 0, none⟩ = some (.bool false) ∧ w'.cell? ⟨bX, 1, none⟩ = some (.slice aX nX cX) ∧ w'.cell? ⟨bX, 2, none⟩ = some (.int .i64 pw)) ∧ Gr wq w') (by kernel_rfl) hS0 (fun hHeld => ?_)
  refine wpAnyH_take (i := 0) (oi := ({ dst := some 48, op := Op.move (Operand.tmp 2), type := 4, pos := "ref.go:118", after := #[], guard := none } : Oper)) (v := ?_) rfl (by kernel_rfl) (by kernel_rfl) (by kernel_rfl) (fun _ _ _ h => h) (Or.inl ⟨by rfl, ?_⟩) (by with_reducible assumption) ?_
  rotate_left
  · intro w hSw
    (try dsimp only at hSw)
    first | (go_simp; done) | (go_simp; with_reducible rfl)
  (try simp only [Act.put, List.setIfInBounds_toArray, List.set_cons_zero, List.set_cons_succ])
  refine wpAnyH_take (i := 1) (oi := ({ dst := some 49, op := Op.move (Operand.tmp 48), type := 4, pos := "ref.go:118", after := #[{ on := 0, ground := Ground.data }], guard := none } : Oper)) (v := ?_) rfl (by kernel_rfl) (by kernel_rfl) (by kernel_rfl) (fun _ _ _ h => h) (Or.inl ⟨by rfl, ?_⟩) (by with_reducible assumption) ?_
  rotate_left
  · intro w hSw
    (try dsimp only at hSw)
    first | (go_simp; done) | (go_simp; with_reducible rfl)
  (try simp only [Act.put, List.setIfInBounds_toArray, List.set_cons_zero, List.set_cons_succ])
  refine wpAnyH_take (i := 2) (oi := ({ dst := some 50, op := Op.load 54 (Operand.tmp 10), type := 54, pos := "ref.go:118", after := #[{ on := 1, ground := Ground.guard }], guard := some (1, true) } : Oper)) (v := ?_) rfl (by kernel_rfl) (by kernel_rfl) (by kernel_rfl) (fun _ _ _ h => h) (Or.inl ⟨by rfl, ?_⟩) (by with_reducible assumption) ?_
  rotate_left
  · intro w hSw
    (try dsimp only at hSw)
    first | (go_simp; done) | (go_simp; with_reducible rfl)
  (try simp only [Act.put, List.setIfInBounds_toArray, List.set_cons_zero, List.set_cons_succ])
  refine wpAnyH_take (i := 3) (oi := ({ dst := some 51, op := Op.load 54 (Operand.tmp 10), type := 54, pos := "ref.go:118", after := #[{ on := 1, ground := Ground.guard }], guard := some (1, true) } : Oper)) (v := ?_) rfl (by kernel_rfl) (by kernel_rfl) (by kernel_rfl) (fun _ _ _ h => h) (Or.inl ⟨by rfl, ?_⟩) (by with_reducible assumption) ?_
  rotate_left
  · intro w hSw
    (try dsimp only at hSw)
    first | (go_simp; done) | (go_simp; with_reducible rfl)
  (try simp only [Act.put, List.setIfInBounds_toArray, List.set_cons_zero, List.set_cons_succ])
  refine wpAnyH_take (i := 5) (oi := ({ dst := some 53, op := Op.load 54 (Operand.tmp 8), type := 54, pos := "ref.go:118", after := #[{ on := 1, ground := Ground.guard }], guard := some (1, true) } : Oper)) (v := ?_) rfl (by kernel_rfl) (by kernel_rfl) (by kernel_rfl) (fun _ _ _ h => h) (Or.inl ⟨by rfl, ?_⟩) (by with_reducible assumption) ?_
  rotate_left
  · intro w hSw
    (try dsimp only at hSw)
    first | (go_simp; done) | (go_simp; with_reducible rfl)
  (try simp only [Act.put, List.setIfInBounds_toArray, List.set_cons_zero, List.set_cons_succ])
  refine wpAnyH_ready (rs := [4]) (by kernel_rfl) (by simp) ?_
  refine AllReadyH.cons (o := ({ dst := some 52, op := Op.call { callee := Callee.value (Operand.func 52), args := #[Operand.tmp 50, Operand.tmp 51], argTypes := #[54, 54] }, type := 54, pos := "ref.go:118", after := #[{ on := 2, ground := Ground.data }, { on := 3, ground := Ground.data }, { on := 1, ground := Ground.chain }, { on := 1, ground := Ground.guard }], guard := some (1, true) } : Oper)) rfl (fun K hK => ?_) AllReadyH.nil
  go_simp
  refine (HT.out _ hHeld.2).mono ?_
  rintro r w4 ⟨a4, n4, c4, rfl, hl4, g4⟩
  refine hK.out _ _ (keepZ g4 hHeld) (fun hH4 => ?_)
  clear hK K
  (try simp only [Act.put, List.setIfInBounds_toArray, List.set_cons_zero, List.set_cons_succ])
  refine wpAnyH_ready (rs := [6]) (by kernel_rfl) (by simp) ?_
  refine AllReadyH.cons (o := ({ dst := some 54, op := Op.call { callee := Callee.value (Operand.func 51), args := #[Operand.tmp 52, Operand.tmp 53], argTypes := #[54, 54] }, type := 3, pos := "ref.go:118", after := #[{ on := 4, ground := Ground.data }, { on := 5, ground := Ground.data }, { on := 4, ground := Ground.chain }, { on := 1, ground := Ground.guard }], guard := some (1, true) } : Oper)) rfl (fun K hK => ?_) AllReadyH.nil
  go_simp
  refine (HC.out _ _ _ _ hH4.2 hl4.out).mono ?_
  rintro r w6 ⟨rfl, g6⟩
  refine hK.out _ _ (keepZ g6 hH4) (fun hH6 => ?_)
  clear hK K
  (try simp only [Act.put, List.setIfInBounds_toArray, List.set_cons_zero, List.set_cons_succ])
  refine wpAnyH_take (i := 7) (oi := ({ dst := some 55, op := Op.binOp BinOp.lss 3 (Operand.tmp 54) (Operand.const (Value.int IntKind.i64 0)) 3, type := 4, pos := "ref.go:118", after := #[{ on := 6, ground := Ground.data }, { on := 1, ground := Ground.guard }], guard := some (1, true) } : Oper)) (v := ?_) rfl (by kernel_rfl) (by kernel_rfl) (by kernel_rfl) (fun _ _ _ h => h) (Or.inl ⟨by rfl, ?_⟩) (by with_reducible assumption) ?_
  rotate_left
  · intro w hSw
    (try dsimp only at hSw)
    first | (go_simp; done) | (go_simp; with_reducible rfl)
  (try simp only [Act.put, List.setIfInBounds_toArray, List.set_cons_zero, List.set_cons_succ])
  refine wpAnyH_take (i := 8) (oi := ({ dst := some 56, op := Op.pick (Operand.tmp 49) (Operand.tmp 55) (Operand.const (Value.bool false)), type := 4, pos := "ref.go:118", after := #[{ on := 1, ground := Ground.data }, { on := 7, ground := Ground.data }], guard := none } : Oper)) (v := ?_) rfl (by kernel_rfl) (by kernel_rfl) (by kernel_rfl) (fun _ _ _ h => h) (Or.inl ⟨by rfl, ?_⟩) (by with_reducible assumption) ?_
  rotate_left
  · intro w hSw
    (try dsimp only at hSw)
    first | (go_simp; done) | (go_simp; with_reducible rfl)
  (try simp only [Act.put, List.setIfInBounds_toArray, List.set_cons_zero, List.set_cons_succ])
  refine wpAnyH_done (by kernel_rfl) ?_ _
  exact ⟨_, _, _, _, _, _, rfl, hH6.2⟩
end Go.Proofs.YtnmdnhmfmahjaaaGreatDoor
namespace Go.Proofs.YtnmdnhmfmahjaaaGreatDoor
open Go.RowKit
set_option linter.unusedVariables false
set_option linter.unusedSimpArgs false

theorem heap_own54 {w : World} {b : Nat} {a0 a1 a2 : Value} (h : w.heap[b]? = some (.cells #[a0, a1, a2] 54)) (v0 v1 v2 : Value) : (((w.setCell ⟨b, 0, none⟩ v0).setCell ⟨b, 1, none⟩ v1).setCell ⟨b, 2, none⟩ v2).heap[b]? = some (.cells #[v0, v1, v2] 54) := by
  simp only [World.setCell, Array.getElem?_modify, if_true, h, Option.map_some]
  rfl
theorem gx3 {g : Nat} {a w : World} (h : Gx g a w) (v0 v1 v2 : Value) : Gx g a (((w.setCell ⟨g, 0, none⟩ v0).setCell ⟨g, 1, none⟩ v1).setCell ⟨g, 2, none⟩ v2) := Gx.setCell (p := ⟨g, 2, none⟩) (Gx.setCell (p := ⟨g, 1, none⟩) (Gx.setCell (p := ⟨g, 0, none⟩) h rfl v0) rfl v1) rfl v2
def R9 (t0 t1 t2 t3 t4 t5 t6 t7 t8 t9 t11 t12 t13 t14 t15 t16 t17 t18 t19 t20 t21 t22 t23 t24 t25 t26 t27 t28 t29 t30 t31 t32 t33 t34 t35 t36 t37 t38 t39 t40 t41 t42 t43 t44 t45 t46 t47 t48 t49 t50 t51 t52 t53 t54 t55 t56 t57 t58 t59 t60 t61 t62 t63 t64 t65 : Value) (bR m : Nat) (wq : World) : Exit → Act → World → Prop
  | .normal, a, w => ∃ aN nN cN u57 u58 u59, a = { tmps := #[t0, t1, t2, t3, t4, t5, t6, t7, t8, t9, .pointer (some ⟨bR, 0, none⟩), t11, t12, t13, t14, t15, t16, t17, t18, t19, t20, t21, t22, t23, t24, t25, t26, t27, t28, t29, t30, t31, t32, t33, t34, t35, t36, t37, t38, t39, t40, t41, t42, t43, t44, t45, t46, t47, t48, t49, t50, t51, t52, t53, t54, t55, t56, u57, u58, u59, t60, t61, t62, t63, t64, t65], defers := [] } ∧ w.heap[bR]? = some (.cells #[.bool false, .slice aN nN cN, .int .i64 0] 54) ∧ Lim w aN nN cN 18446744073709551616 m ∧ Gx bR wq w
  | _, _, _ => False
set_option maxRecDepth 100000 in
set_option maxHeartbeats 20000000 in
theorem reg9 (t0 t1 t2 t3 t4 t5 t6 t7 t8 t9 t11 t12 t13 t14 t15 t16 t17 t18 t19 t20 t21 t22 t23 t24 t25 t26 t27 t28 t29 t30 t31 t32 t33 t34 t35 t36 t37 t38 t39 t40 t41 t42 t43 t44 t45 t46 t47 t48 t49 t50 t51 t52 t53 t54 t55 t56 t57 t58 t59 t60 t61 t62 t63 t64 t65 : Value) (aR : Option Addr) (nR cR m : Nat) (bR : Nat) (wq : World)
    (PB : wq.heap[bR]? = some (.cells #[.bool false, .slice aR nR cR, .int .i64 0] 54))
    (HW : Hid (∀ w1, Calls Tryz.prog 54 #[.int .i64 1] w1 fun r w' => ∃ a n c, r = .returned (.agg #[.bool false, .slice a n c, .int .i64 0]) ∧ Hid (Lim w' a n c 18446744073709551616 1) ∧ Gr w1 w'))
    (HP : Hid (∀ a n c w1, Gr wq w1 → Lim w1 a n c 18446744073709551616 1 → Calls Tryz.prog 53 #[.agg #[.bool false, .slice aR nR cR, .int .i64 0], .agg #[.bool false, .slice a n c, .int .i64 0]] w1 fun r w' => ∃ a n c, r = .returned (.agg #[.bool false, .slice a n c, .int .i64 0]) ∧ Hid (Lim w' a n c 18446744073709551616 m) ∧ Gr w1 w')) :
    Code.wp Tryz.prog (Code.region 9 #[{ dst := some 57, op := Op.load 54 (Operand.tmp 10), type := 54, pos := "ref.go:119", after := #[], guard := none }, { dst := some 58, op := Op.call { callee := Callee.value (Operand.func 54), args := #[Operand.const (Value.int IntKind.i64 1)], argTypes := #[2] }, type := 54, pos := "ref.go:119", after := #[], guard := none }, { dst := some 59, op := Op.call { callee := Callee.value (Operand.func 53), args := #[Operand.tmp 57, Operand.tmp 58], argTypes := #[54, 54] }, type := 54, pos := "ref.go:119", after := #[{ on := 0, ground := Ground.data }, { on := 1, ground := Ground.data }, { on := 1, ground := Ground.chain }], guard := none }, { dst := none, op := Op.store 54 (Operand.tmp 10) (Operand.tmp 59), type := 0, pos := "ref.go:119", after := #[{ on := 2, ground := Ground.data }, { on := 2, ground := Ground.chain }, { on := 0, ground := Ground.phase }, { on := 1, ground := Ground.phase }, { on := 2, ground := Ground.phase }], guard := none }] true) (R9 t0 t1 t2 t3 t4 t5 t6 t7 t8 t9 t11 t12 t13 t14 t15 t16 t17 t18 t19 t20 t21 t22 t23 t24 t25 t26 t27 t28 t29 t30 t31 t32 t33 t34 t35 t36 t37 t38 t39 t40 t41 t42 t43 t44 t45 t46 t47 t48 t49 t50 t51 t52 t53 t54 t55 t56 t57 t58 t59 t60 t61 t62 t63 t64 t65 bR m wq) { tmps := #[t0, t1, t2, t3, t4, t5, t6, t7, t8, t9, .pointer (some ⟨bR, 0, none⟩), t11, t12, t13, t14, t15, t16, t17, t18, t19, t20, t21, t22, t23, t24, t25, t26, t27, t28, t29, t30, t31, t32, t33, t34, t35, t36, t37, t38, t39, t40, t41, t42, t43, t44, t45, t46, t47, t48, t49, t50, t51, t52, t53, t54, t55, t56, t57, t58, t59, t60, t61, t62, t63, t64, t65], defers := [] } wq := by
  obtain ⟨q0, q1, q2⟩ := cells_ofT PB
  have k0 : wq.drew.cell? ⟨bR, 0, none⟩ = some (.bool false) := q0
  have k1 : wq.drew.cell? ⟨bR, 1, none⟩ = some (.slice aR nR cR) := q1
  have k2 : wq.drew.cell? ⟨bR, 2, none⟩ = some (.int .i64 0) := q2
  clear q0 q1 q2
  refine wp_region_any (by kernel_rfl) ?_
  show wpAny _ _ _ _ _ _ _ wq.drew
  refine wpAny_ready (rs := [0, 1]) (by kernel_rfl) (by simp) ?_
  refine AllReady.cons (o := ({ dst := some 57, op := Op.load 54 (Operand.tmp 10), type := 54, pos := "ref.go:119", after := #[], guard := none } : Oper)) rfl (fun K hK0 => ?_) ?_
  · have hK : Shut _ := hK0
    clear hK0
    go_simp
    refine hK.out _ _ ?_
    clear hK K
    (try simp only [Act.put, List.setIfInBounds_toArray, List.set_cons_zero, List.set_cons_succ])
    refine wpAny_ready (rs := [1]) (by kernel_rfl) (by simp) ?_
    refine AllReady.cons (o := ({ dst := some 58, op := Op.call { callee := Callee.value (Operand.func 54), args := #[Operand.const (Value.int IntKind.i64 1)], argTypes := #[2] }, type := 54, pos := "ref.go:119", after := #[], guard := none } : Oper)) rfl (fun K hK0 => ?_) AllReady.nil
    have hK : Shut _ := hK0
    clear hK0
    go_simp
    refine (HW.out _).mono ?_
    rintro r w1 ⟨a1, n1, c1, rfl, hl1, g1⟩
    refine hK.out _ _ ?_
    clear hK K
    (try simp only [Act.put, List.setIfInBounds_toArray, List.set_cons_zero, List.set_cons_succ])
    refine wpAny_ready (rs := [2]) (by kernel_rfl) (by simp) ?_
    refine AllReady.cons (o := ({ dst := some 59, op := Op.call { callee := Callee.value (Operand.func 53), args := #[Operand.tmp 57, Operand.tmp 58], argTypes := #[54, 54] }, type := 54, pos := "ref.go:119", after := #[{ on := 0, ground := Ground.data }, { on := 1, ground := Ground.data }, { on := 1, ground := Ground.chain }], guard := none } : Oper)) rfl (fun K hK0 => ?_) AllReady.nil
    have hK : Shut _ := hK0
    clear hK0
    go_simp
    refine (HP.out _ _ _ _ (((Gr.refl wq).drew).trans g1) hl1.out).mono ?_
    rintro r w2 ⟨a2, n2, c2, rfl, hl2, g2⟩
    refine hK.out _ _ ?_
    clear hK K
    (try simp only [Act.put, List.setIfInBounds_toArray, List.set_cons_zero, List.set_cons_succ])
    have GQ := (((Gr.refl wq).drew).trans g1).trans g2
    have P2 := GQ.keepH PB
    obtain ⟨y0, y1, y2⟩ := cells_ofT P2
    obtain ⟨z0, z1, z2⟩ := open_ofT P2
    refine wpAny_ready (rs := [3]) (by kernel_rfl) (by simp) ?_
    refine AllReady.cons (o := ({ dst := none, op := Op.store 54 (Operand.tmp 10) (Operand.tmp 59), type := 0, pos := "ref.go:119", after := #[{ on := 2, ground := Ground.data }, { on := 2, ground := Ground.chain }, { on := 0, ground := Ground.phase }, { on := 1, ground := Ground.phase }, { on := 2, ground := Ground.phase }], guard := none } : Oper)) rfl (fun K hK0 => ?_) AllReady.nil
    have hK : Shut _ := hK0
    clear hK0
    go_simp
    refine hK.out _ _ ?_
    clear hK K
    (try simp only [Act.put, List.setIfInBounds_toArray, List.set_cons_zero, List.set_cons_succ])
    refine wpAny_done (by kernel_rfl) ?_ _
    exact ⟨a2, n2, c2, _, _, _, rfl, heap_own54 P2 _ _ _, set3_lim hl2.out P2 _ _ _, gx3 (Gx.of_gr GQ) _ _ _⟩
  refine AllReady.cons (o := ({ dst := some 58, op := Op.call { callee := Callee.value (Operand.func 54), args := #[Operand.const (Value.int IntKind.i64 1)], argTypes := #[2] }, type := 54, pos := "ref.go:119", after := #[], guard := none } : Oper)) rfl (fun K hK0 => ?_) AllReady.nil
  have hK : Shut _ := hK0
  clear hK0
  go_simp
  refine (HW.out _).mono ?_
  rintro r w1 ⟨a1, n1, c1, rfl, hl1, g1⟩
  refine hK.out _ _ ?_
  clear hK K
  (try simp only [Act.put, List.setIfInBounds_toArray, List.set_cons_zero, List.set_cons_succ])
  replace k0 := g1.keep k0
  replace k1 := g1.keep k1
  replace k2 := g1.keep k2
  refine wpAny_ready (rs := [0]) (by kernel_rfl) (by simp) ?_
  refine AllReady.cons (o := ({ dst := some 57, op := Op.load 54 (Operand.tmp 10), type := 54, pos := "ref.go:119", after := #[], guard := none } : Oper)) rfl (fun K hK0 => ?_) AllReady.nil
  have hK : Shut _ := hK0
  clear hK0
  go_simp
  refine hK.out _ _ ?_
  clear hK K
  (try simp only [Act.put, List.setIfInBounds_toArray, List.set_cons_zero, List.set_cons_succ])
  refine wpAny_ready (rs := [2]) (by kernel_rfl) (by simp) ?_
  refine AllReady.cons (o := ({ dst := some 59, op := Op.call { callee := Callee.value (Operand.func 53), args := #[Operand.tmp 57, Operand.tmp 58], argTypes := #[54, 54] }, type := 54, pos := "ref.go:119", after := #[{ on := 0, ground := Ground.data }, { on := 1, ground := Ground.data }, { on := 1, ground := Ground.chain }], guard := none } : Oper)) rfl (fun K hK0 => ?_) AllReady.nil
  have hK : Shut _ := hK0
  clear hK0
  go_simp
  refine (HP.out _ _ _ _ (((Gr.refl wq).drew).trans g1) hl1.out).mono ?_
  rintro r w2 ⟨a2, n2, c2, rfl, hl2, g2⟩
  refine hK.out _ _ ?_
  clear hK K
  (try simp only [Act.put, List.setIfInBounds_toArray, List.set_cons_zero, List.set_cons_succ])
  have GQ := (((Gr.refl wq).drew).trans g1).trans g2
  have P2 := GQ.keepH PB
  obtain ⟨y0, y1, y2⟩ := cells_ofT P2
  obtain ⟨z0, z1, z2⟩ := open_ofT P2
  refine wpAny_ready (rs := [3]) (by kernel_rfl) (by simp) ?_
  refine AllReady.cons (o := ({ dst := none, op := Op.store 54 (Operand.tmp 10) (Operand.tmp 59), type := 0, pos := "ref.go:119", after := #[{ on := 2, ground := Ground.data }, { on := 2, ground := Ground.chain }, { on := 0, ground := Ground.phase }, { on := 1, ground := Ground.phase }, { on := 2, ground := Ground.phase }], guard := none } : Oper)) rfl (fun K hK0 => ?_) AllReady.nil
  have hK : Shut _ := hK0
  clear hK0
  go_simp
  refine hK.out _ _ ?_
  clear hK K
  (try simp only [Act.put, List.setIfInBounds_toArray, List.set_cons_zero, List.set_cons_succ])
  refine wpAny_done (by kernel_rfl) ?_ _
  exact ⟨a2, n2, c2, _, _, _, rfl, heap_own54 P2 _ _ _, set3_lim hl2.out P2 _ _ _, gx3 (Gx.of_gr GQ) _ _ _⟩
end Go.Proofs.YtnmdnhmfmahjaaaGreatDoor
