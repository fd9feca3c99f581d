import Derived.Test.YtlhpkflknfmjcaaGreatDoorM36
import Derived.Test.YtlhpkflknfmjcaaGreatDoorM41
import Derived.Test.YtlhpkflknfmjcaaGreatDoorM31
import Derived.Test.YtlhpkflknfmjcaaGreatDoorM30
namespace Go.Proofs.YtlhpkflknfmjcaaGreatDoor
open Go.RowKit
set_option linter.unusedVariables false

set_option maxRecDepth 10000 in
set_option maxHeartbeats 1600000 in
theorem rootA (s up : Bool) (ad : Option Addr) (n cap : Nat) (e last : Int) (w : World) (R : Hid (∀ w1, Gr w w1 → Calls Tryz.prog 161 #[.agg #[.bool s, .slice ad n cap, .int .i64 e]] w1 fun r w' => r = .returned (.bool false) ∧ Gr w1 w')) :
    Calls Tryz.prog 175 #[.agg #[.bool s, .slice ad n cap, .int .i64 e], .int .i64 last, .bool up] w fun r w' => r = .returned (.tuple #[zeroD, .int .i64 2]) ∧ Gr w w' := by
  have TB : Hid _ := two_blocks w (.bool s) (.slice ad n cap) (.int .i64 e) (.bool false) (.slice none 0 0) (.int .i64 0) _ rfl
  have kb0 : Hid _ := second_block w (.cells #[.bool s, .slice ad n cap, .int .i64 e] 121) (.cells #[.bool false, .slice none 0 0, .int .i64 0] 121)
  go_enter Tryz.func175, Tryz.ntmps175
  go_wp2_with (first | (go_at_call 161; (with_reducible refine (R.out _ (gr2 _ _)).mono ?_); rintro r w1 ⟨rfl, g1⟩; have k := keep6 g1 TB.out; have k0 := k.1.1; have k1 := k.1.2.1; have k2 := k.1.2.2.1; have kb := g1.keepH kb0.out; obtain ⟨t0, t1, t2, u0, u1, u2⟩ := Out3.of kb))
  refine bodyPost_ret (v := .tuple #[zeroD, .int .i64 2]) ?_ rfl ⟨rfl, (((k.2).setCell (p := ⟨w.heap.size + 1, 0, none⟩) (Nat.le_succ _) _).setCell (p := ⟨w.heap.size + 1, 1, none⟩) (Nat.le_succ _) _).setCell (p := ⟨w.heap.size + 1, 2, none⟩) (Nat.le_succ _) _⟩
  simp [results, Tryz.results175, go_sem, t0, t1, t2, zeroD]
set_option maxRecDepth 10000 in
set_option maxHeartbeats 1600000 in
theorem rootN (up : Bool) (ad : Option Addr) (n cap : Nat) (e last : Int) (w : World) (R : Hid (∀ w1, Gr w w1 → Calls Tryz.prog 161 #[.agg #[.bool true, .slice ad n cap, .int .i64 e]] w1 fun r w' => r = .returned (.bool true) ∧ Gr w1 w')) :
    Calls Tryz.prog 175 #[.agg #[.bool true, .slice ad n cap, .int .i64 e], .int .i64 last, .bool up] w fun r w' => r = .returned (.tuple #[zeroD, .int .i64 2]) ∧ Gr w w' := by
  have TB : Hid _ := two_blocks w (.bool true) (.slice ad n cap) (.int .i64 e) (.bool false) (.slice none 0 0) (.int .i64 0) _ rfl
  have kb0 : Hid _ := second_block w (.cells #[.bool true, .slice ad n cap, .int .i64 e] 121) (.cells #[.bool false, .slice none 0 0, .int .i64 0] 121)
  go_enter Tryz.func175, Tryz.ntmps175
  go_wp2_with (first | (go_at_call 161; (with_reducible refine (R.out _ (gr2 _ _)).mono ?_); rintro r w1 ⟨rfl, g1⟩; have k := keep6 g1 TB.out; have k0 := k.1.1; have k1 := k.1.2.1; have k2 := k.1.2.2.1; have kb := g1.keepH kb0.out; obtain ⟨t0, t1, t2, u0, u1, u2⟩ := Out3.of kb))
  refine bodyPost_ret (v := .tuple #[zeroD, .int .i64 2]) ?_ rfl ⟨rfl, (((k.2).setCell (p := ⟨w.heap.size + 1, 0, none⟩) (Nat.le_succ _) _).setCell (p := ⟨w.heap.size + 1, 1, none⟩) (Nat.le_succ _) _).setCell (p := ⟨w.heap.size + 1, 2, none⟩) (Nat.le_succ _) _⟩
  simp [results, Tryz.results175, go_sem, t0, t1, t2, zeroD]
set_option maxRecDepth 10000 in
set_option maxHeartbeats 1600000 in
theorem rootB (up : Bool) (ad : Option Addr) (n cap : Nat) (e last : Int) (w : World) (R : Hid (∀ w1, Gr w w1 → Calls Tryz.prog 161 #[.agg #[.bool false, .slice ad n cap, .int .i64 e]] w1 fun r w' => r = .returned (.bool true) ∧ Gr w1 w')) (L : Hid (∀ w1, Calls Tryz.prog 178 #[.int .i64 last] w1 fun r w' => r = .returned (.bool false) ∧ w1 = w')) :
    Calls Tryz.prog 175 #[.agg #[.bool false, .slice ad n cap, .int .i64 e], .int .i64 last, .bool up] w fun r w' => r = .returned (.tuple #[zeroD, .int .i64 2]) ∧ Gr w w' := by
  have TB : Hid _ := two_blocks w (.bool false) (.slice ad n cap) (.int .i64 e) (.bool false) (.slice none 0 0) (.int .i64 0) _ rfl
  have kb0 : Hid _ := second_block w (.cells #[.bool false, .slice ad n cap, .int .i64 e] 121) (.cells #[.bool false, .slice none 0 0, .int .i64 0] 121)
  go_enter Tryz.func175, Tryz.ntmps175
  go_wp2_with (first | (go_at_call 161; (with_reducible refine (R.out _ (gr2 _ _)).mono ?_); rintro r w1 ⟨rfl, g1⟩; have k := keep6 g1 TB.out; have k0 := k.1.1; have k1 := k.1.2.1; have k2 := k.1.2.2.1; have kb := g1.keepH kb0.out; obtain ⟨t0, t1, t2, u0, u1, u2⟩ := Out3.of kb) | (go_at_call 178; (with_reducible refine (L.out _).mono ?_); rintro r w2 ⟨rfl, rfl⟩))
  refine bodyPost_ret (v := .tuple #[zeroD, .int .i64 2]) ?_ rfl ⟨rfl, (((k.2).setCell (p := ⟨w.heap.size + 1, 0, none⟩) (Nat.le_succ _) _).setCell (p := ⟨w.heap.size + 1, 1, none⟩) (Nat.le_succ _) _).setCell (p := ⟨w.heap.size + 1, 2, none⟩) (Nat.le_succ _) _⟩
  simp [results, Tryz.results175, go_sem, t0, t1, t2, zeroD]
set_option maxHeartbeats 1600000 in
/-- Root of nought -/
theorem root_z (up : Bool) (ad : Option Addr) (cap x : Nat) (e last : Int) (w : World) (dx : DyAt w false ad 0 cap e x) (l1 : -1048576 ≤ last) (l2 : last ≤ 1048576) :
    Calls Tryz.prog 175 #[.agg #[.bool false, .slice ad 0 cap, .int .i64 e], .int .i64 last, .bool up] w fun r w' => r = .returned (.tuple #[.agg #[.bool false, .slice none 0 0, .int .i64 0], .int .i64 0]) ∧ Gr w w' := by
  have R15 := dx.r26
  have H36 : Hid (∀ w1, Calls Tryz.prog 178 #[.int .i64 last] w1 fun r w' => r = .returned (.bool true) ∧ w' = w1) := fun w1 => by
    have := rightExp36 last w1
    rw [show decide (-1048576 ≤ last ∧ last ≤ 1048576) = true by simp; omega] at this
    exact this
  clear dx
  have TB : Hid _ := two_blocks w (.bool false) (.slice ad 0 cap) (.int .i64 e) (.bool false) (.slice none 0 0) (.int .i64 0) _ rfl
  have kb0 : Hid _ := second_block w (.cells #[.bool false, .slice ad 0 cap, .int .i64 e] 121) (.cells #[.bool false, .slice none 0 0, .int .i64 0] 121)
  go_enter Tryz.func175, Tryz.ntmps175
  go_wp2_with (first | (go_at_call 161; (with_reducible refine (R15.out _ (gr2 _ _)).mono ?_); rintro r w1 ⟨rfl, g1⟩; have k := keep6 g1 TB.out; have k0 := k.1.1; have k1 := k.1.2.1; have k2 := k.1.2.2.1; have kb := g1.keepH kb0.out; obtain ⟨t0, t1, t2, u0, u1, u2⟩ := Out3.of kb) | (go_at_call 178; (with_reducible refine (H36.out _).mono ?_); rintro r w2 ⟨rfl, rfl⟩))
  refine bodyPost_ret (v := .tuple #[.agg #[.bool false, .slice none 0 0, .int .i64 0], .int .i64 0]) ?_ rfl ⟨rfl, ?_⟩
  · simp [results, Tryz.results175, go_sem, t0, t1, t2]
  · first | exact k.2 | exact k.2.drew | exact ((k.2.setCell (p := ⟨w.heap.size + 1, 0, none⟩) (Nat.le_succ _) _).setCell (p := ⟨w.heap.size + 1, 1, none⟩) (Nat.le_succ _) _).setCell (p := ⟨w.heap.size + 1, 2, none⟩) (Nat.le_succ _) _
set_option maxHeartbeats 1600000 in
/-- a root that is too long -/
theorem root_l (up : Bool) (ad : Option Addr) (n cap x : Nat) (e last pw : Int) (w : World) (dx : DyAt w false ad (n + 1) cap e x) (l1 : -1048576 ≤ last) (l2 : last ≤ 1048576) (hpw : e - 2 * last = pw) (hbits : (bl x : Int) + pw > 524288) :
    Calls Tryz.prog 175 #[.agg #[.bool false, .slice ad (n + 1) cap, .int .i64 e], .int .i64 last, .bool up] w fun r w' => r = .returned (.tuple #[zeroD, .int .i64 3]) ∧ Gr w w' := by
  have R15 := dx.r26
  have e1 := dx.low
  have e2 := dx.high
  have x0 : 0 < x := Nat.pos_of_ne_zero fun h => by
    have := dx.lim
    rw [h] at this
    have := lim_zero this
    omega
  have b1 := dx.le
  have H36 : Hid (∀ w1, Calls Tryz.prog 178 #[.int .i64 last] w1 fun r w' => r = .returned (.bool true) ∧ w' = w1) := fun w1 => by
    have := rightExp36 last w1
    rw [show decide (-1048576 ≤ last ∧ last ≤ 1048576) = true by simp; omega] at this
    exact this
  have hbl : bl x ≤ 262144 := by
    obtain ⟨xs, r, d⟩ := dx.lim
    have := bl_len d
    rw [r.len] at this
    omega
  have H40 : Hid (∀ w1, Gr w w1 → Calls Tryz.prog 162 #[.slice ad (n + 1) cap] w1 fun r w' => r = .returned (.int .i64 (bl x : Int)) ∧ Gr w1 w') := fun w1 g => bitLength40 ad (n + 1) cap x w1 (dx.lim.gr g) x0 (by omega)
  have p1 : -3145728 ≤ pw := by omega
  have p2 : pw ≤ 3145728 := by omega
  clear dx x0
  generalize bl x = bx' at *
  have TB : Hid _ := two_blocks w (.bool false) (.slice ad (n + 1) cap) (.int .i64 e) (.bool false) (.slice none 0 0) (.int .i64 0) _ rfl
  have kb0 : Hid _ := second_block w (.cells #[.bool false, .slice ad (n + 1) cap, .int .i64 e] 121) (.cells #[.bool false, .slice none 0 0, .int .i64 0] 121)
  have z1 : ((n : Int) + 1 == 0) = false := by simp; omega
  go_enter Tryz.func175, Tryz.ntmps175
  go_wp2_with (first | (go_at_call 161; (with_reducible refine (R15.out _ (gr2 _ _)).mono ?_); rintro r w1 ⟨rfl, g1⟩; have k := keep6 g1 TB.out; have k0 := k.1.1; have k1 := k.1.2.1; have k2 := k.1.2.2.1; have kb := g1.keepH kb0.out) | (go_at_call 178; (with_reducible refine (H36.out _).mono ?_); rintro r w2 ⟨rfl, rfl⟩) | (go_at_call 162; (with_reducible refine (H40.out _ k.2).mono ?_); rintro r w3 ⟨rfl, g3⟩; have kb3 := g3.keepH kb; clear k0 k1 k2; obtain ⟨t0, t1, t2, u0, u1, u2⟩ := Out3.of kb3))
  refine bodyPost_ret (v := .tuple #[zeroD, .int .i64 3]) ?_ rfl ⟨rfl, (((k.2.trans g3).setCell (p := ⟨w.heap.size + 1, 0, none⟩) (Nat.le_succ _) _).setCell (p := ⟨w.heap.size + 1, 1, none⟩) (Nat.le_succ _) _).setCell (p := ⟨w.heap.size + 1, 2, none⟩) (Nat.le_succ _) _⟩
  simp [results, Tryz.results175, go_sem, t0, t1, t2, zeroD]
/-- what the root is of, in whole units of its square -/
def RM (x : Nat) (pw : Int) : Nat := if pw < 0 then x / 2 ^ (-pw).toNat else x * 2 ^ pw.toNat
def RUp (x : Nat) (pw : Int) (R : Nat) (up : Bool) : Nat := if up = true ∧ ¬ (R * R = RM x pw ∧ 0 ≤ pw) then R + 1 else R
/-- Root, of any right dyad above 0 that is not too long -/
theorem root_p (up : Bool) (ad : Option Addr) (n cap x R : Nat) (e last : Int) (w : World) (dx : DyAt w false ad (n + 1) cap e x) (hT : TabAt 2 Lib.deBruijn64tab w) (l1 : -1048576 ≤ last) (l2 : last ≤ 1048576) (hbits : ¬ (bl x : Int) + (e - 2 * last) > 524288) (r1 : R * R ≤ RM x (e - 2 * last)) (r2 : RM x (e - 2 * last) < (R + 1) * (R + 1)) :
    Calls Tryz.prog 175 #[.agg #[.bool false, .slice ad (n + 1) cap, .int .i64 e], .int .i64 last, .bool up] w fun r w' => Settled w' r false (RUp x (e - 2 * last) R up) last ∧ Gr w w' := by
  have e1 := dx.low
  have e2 := dx.high
  have b1 := dx.le
  unfold RUp
  have x0 : 0 < bl x := Nat.pos_of_ne_zero fun h => by
    have := dx.lim
    rw [bl_zero_iff.1 h] at this
    have := lim_zero this
    omega
  rcases Int.lt_or_le (e - 2 * last) 0 with hp | hp
  · obtain ⟨k, hk⟩ : ∃ k : Nat, e - 2 * last = -(k : Int) := ⟨(-(e - 2 * last)).toNat, by omega⟩
    have eM : RM x (e - 2 * last) = x / 2 ^ k := by
      unfold RM
      rw [if_pos hp, show (-(e - 2 * last)).toNat = k by omega]
    rw [eM] at r1 r2
    have SH : Hid (∀ w1, Gr w w1 → Calls Tryz.prog 180 #[.slice ad (n + 1) cap, .int .i64 (e - 2 * last)] w1 fun r w' => ∃ a4 n4 c4, r = .returned (.slice a4 n4 c4) ∧ n4 ≤ 1073741824 ∧ Hid (Lim w' a4 n4 c4 18446744073709551616 (x / 2 ^ k)) ∧ Gr w1 w') := fun w1 g => by
      refine (shiftDn ad (n + 1) cap x k w1 (dx.lim.gr g) (by omega) (by omega) (by omega) _ hk).mono ?_
      rintro r w' ⟨a, n', c, rfl, h2, h3, h4⟩
      exact ⟨a, n', c, rfl, by omega, h3, h4⟩
    cases up
    · rw [if_neg (by simp)]
      exact root_d (decide (R * R = x / 2 ^ k)) ad n cap x (x / 2 ^ k) R e last _ w dx hT l1 l2 rfl hbits SH r1 r2 rfl
    · rw [if_pos ⟨rfl, fun h => by omega⟩]
      by_cases hd : R * R = x / 2 ^ k
      · exact root_n ad n cap x (x / 2 ^ k) R e last _ w dx hT l1 l2 rfl hbits hp SH r1 r2 (by simp [hd])
      · exact root_u ad n cap x (x / 2 ^ k) R e last _ w dx hT l1 l2 rfl hbits SH r1 r2 (by simp [hd])
  · obtain ⟨k, hk⟩ : ∃ k : Nat, e - 2 * last = (k : Int) := ⟨(e - 2 * last).toNat, by omega⟩
    have eM : RM x (e - 2 * last) = x * 2 ^ k := by
      unfold RM
      rw [if_neg (by omega), show (e - 2 * last).toNat = k by omega]
    rw [eM] at r1 r2
    rw [eM]
    have SH : Hid (∀ w1, Gr w w1 → Calls Tryz.prog 180 #[.slice ad (n + 1) cap, .int .i64 (e - 2 * last)] w1 fun r w' => ∃ a4 n4 c4, r = .returned (.slice a4 n4 c4) ∧ n4 ≤ 1073741824 ∧ Hid (Lim w' a4 n4 c4 18446744073709551616 (x * 2 ^ k)) ∧ Gr w1 w') := fun w1 g => by
      rw [hk]
      refine (shift42 ad (n + 1) cap x k w1 (dx.lim.gr g) (by omega) (by omega)).mono ?_
      rintro r w' ⟨a, n', c, rfl, h2, h3, h4⟩
      exact ⟨a, n', c, rfl, by omega, h3, h4⟩
    cases up
    · rw [if_neg (by simp)]
      exact root_d (decide (R * R = x * 2 ^ k)) ad n cap x (x * 2 ^ k) R e last _ w dx hT l1 l2 rfl hbits SH r1 r2 rfl
    · by_cases hd : R * R = x * 2 ^ k
      · rw [if_neg (fun h => h.2 ⟨hd, by omega⟩)]
        exact root_e ad n cap x (x * 2 ^ k) R e last _ w dx hT l1 l2 rfl hbits hp SH r1 r2 (by simp [hd])
      · rw [if_pos ⟨rfl, fun h => hd h.1⟩]
        exact root_u ad n cap x (x * 2 ^ k) R e last _ w dx hT l1 l2 rfl hbits SH r1 r2 (by simp [hd])
end Go.Proofs.YtlhpkflknfmjcaaGreatDoor
namespace Go.Proofs.YtlhpkflknfmjcaaGreatDoor
open Go.RowKit
set_option linter.unusedVariables false
/-- 2^-P, in units of 2^-KN -/
def Un (P : Nat) : Int := ((2 ^ (KN - P) : Nat) : Int)
theorem Un_pos (P : Nat) : 0 < Un P := by unfold Un; exact Int.ofNat_lt.2 (Nat.two_pow_pos _)
theorem Un_split {P Q : Nat} (h : P ≤ Q) (hQ : Q ≤ 1000000) : Un P = ((2 ^ (Q - P) : Nat) : Int) * Un Q := by
  unfold Un
  have hk := KN_eq
  rw [← Int.natCast_mul, ← Nat.pow_add, show Q - P + (KN - Q) = KN - P by omega]
theorem gd_un {P k : Nat} {C : Int} (h : C.natAbs < 2 ^ k) : Gd P k (C * Un P) := ⟨C, rfl, h⟩
theorem sv_un (s : Bool) (x P : Nat) (hP : P ≤ 1000000) : sv KK s x (-(P : Int)) = (if s then -(x : Int) else x) * Un P := by
  have hk := KN_eq
  have hkk := KK_eq
  unfold sv Un
  rw [show (-(P : Int) + KK).toNat = KN - P by omega]
  cases s
  · simp only [Bool.false_eq_true, if_false]; rw [Int.natCast_mul]
  · simp only [if_true]; rw [Int.natCast_mul, Int.neg_mul]
theorem sv_int_n (n : Int) (h : n < 0) : sv KK true n.natAbs 0 = n * Un 0 := by
  have := sv_un true n.natAbs 0 (by omega)
  simp only [Int.natCast_zero, Int.neg_zero, if_true] at this
  rw [this, show -(n.natAbs : Int) = n by omega]
theorem sv_int_p (n : Int) (h : ¬ n < 0) : sv KK false n.natAbs 0 = n * Un 0 := by
  have := sv_un false n.natAbs 0 (by omega)
  simp only [Int.natCast_zero, Int.neg_zero, Bool.false_eq_true, if_false] at this
  rw [this, show (n.natAbs : Int) = n by omega]
attribute [irreducible] Un
/-- an answer: a right dyad of that worth, and no error -/
def DvT (w : World) (r : Ending) (V : Int) : Prop := ∃ s ad n cap e, r = .returned (.tuple #[.agg #[.bool s, .slice ad n cap, .int .i64 e], .int .i64 0]) ∧ DyV w s ad n cap e V
theorem dyv_zero (w : World) (V : Int) (h : V = 0) : DyV w false none 0 0 0 V := by
  subst h
  exact ⟨0, ⟨⟨[], Row.empty (by omega) (fun _ => rfl), Dg.nil⟩, by omega, Or.inl ⟨rfl, rfl, rfl⟩⟩, sv_zero _ _ _⟩
theorem sv_shift (K : Int) (s : Bool) (x : Nat) (e : Int) (k : Nat) (h : 0 ≤ e - k + K) : sv K s x e = ((2 ^ k : Nat) : Int) * sv K s x (e - k) := by
  unfold sv
  have h1 : (e + K).toNat = k + (e - k + K).toNat := by omega
  rw [h1, Nat.pow_add]
  have h2 : x * (2 ^ k * 2 ^ (e - k + K).toNat) = 2 ^ k * (x * 2 ^ (e - k + K).toNat) := by rw [Nat.mul_left_comm]
  rw [h2]
  cases s
  · simp only [Bool.false_eq_true, if_false]; rw [Int.natCast_mul]
  · simp only [if_true]; rw [Int.natCast_mul, Int.mul_neg]
theorem intD (n : Int) (w : World) (h1 : -1000000 ≤ n) (h2 : n ≤ 1000000) (hT : TabAt 2 Lib.deBruijn64tab w) :
    Calls Tryz.prog 171 #[.int .i64 n] w fun r w' => Dv w' r (n * Un 0) ∧ Gr w w' := by
  have hkk := KK_eq
  have hg : Gd 0 64 (n * Un 0) := gd_un (by
    have h : n.natAbs ≤ 1000000 := by omega
    exact Nat.lt_of_le_of_lt h (by decide))
  by_cases hn : n < 0
  · refine (Fl.int10n n.natAbs n w hn (by show n = _; omega) (by omega) hT).mono ?_
    rintro r w' ⟨a, b, c, d, f, g, rfl, hS, hG⟩
    obtain ⟨s', ad, n', cap, e', he, hd⟩ := hS.out.told.dyv (lo := 0) (k := 64) (V := n * Un 0) (sv_int_n n hn) hg (by omega) (by omega) (by omega)
    simp only [Ending.returned.injEq, Value.tuple.injEq, Array.mk.injEq, List.cons.injEq, Value.agg.injEq, Value.bool.injEq, Value.slice.injEq, Value.int.injEq, and_true, true_and] at he
    obtain ⟨⟨rfl, ⟨rfl, rfl, rfl⟩, rfl⟩, rfl⟩ := he
    exact ⟨⟨_, _, _, _, _, rfl, hd⟩, hG⟩
  · refine (Fl.int10p n.natAbs n w hn (by show n = _; omega) (by omega) hT).mono ?_
    rintro r w' ⟨a, b, c, d, f, g, rfl, hS, hG⟩
    obtain ⟨s', ad, n', cap, e', he, hd⟩ := hS.out.told.dyv (lo := 0) (k := 64) (V := n * Un 0) (sv_int_p n hn) hg (by omega) (by omega) (by omega)
    simp only [Ending.returned.injEq, Value.tuple.injEq, Array.mk.injEq, List.cons.injEq, Value.agg.injEq, Value.bool.injEq, Value.slice.injEq, Value.int.injEq, and_true, true_and] at he
    obtain ⟨⟨rfl, ⟨rfl, rfl, rfl⟩, rfl⟩, rfl⟩ := he
    exact ⟨⟨_, _, _, _, _, rfl, hd⟩, hG⟩
theorem scaleD (s : Bool) (ad : Option Addr) (n cap : Nat) (e C : Int) (P k j : Nat) (w : World) (d : DyV w s ad n cap e (C * Un P)) (hT : TabAt 2 Lib.deBruijn64tab w) (hC : C.natAbs < 2 ^ j) (hj : j ≤ 200000) (hP : P + k ≤ 100000) :
    Calls Tryz.prog 176 #[.agg #[.bool s, .slice ad n cap, .int .i64 e], .int .i64 (-(k : Int))] w fun r w' => DvT w' r (C * Un (P + k)) ∧ Gr w w' := by
  have hkk := KK_eq
  have hs := d.sign
  obtain ⟨x, dx, hV⟩ := d
  cases n with
  | zero =>
    have hC0 : C = 0 := by
      have hp := Un_pos P
      rcases Int.mul_eq_zero.1 (hs.2.2.1.1 rfl) with h | h
      · exact h
      · omega
    refine (scale15z s ad 0 cap e _ w dx.r26).mono ?_
    rintro r w' ⟨rfl, hG⟩
    exact ⟨⟨_, _, _, _, _, rfl, dyv_zero _ _ (by rw [hC0, Int.zero_mul])⟩, hG⟩
  | succ n =>
    refine (scale15m s ad n cap x e (-(k : Int)) w dx hT (by omega) (by omega)).mono ?_
    rintro r w' ⟨hS, hG⟩
    refine ⟨?_, hG⟩
    have e1 := dx.low
    refine hS.dyv (lo := P + k) (k := j) ?_ (gd_un hC) (by omega) (by omega) (by omega)
    have h1 := sv_shift KK s x e k (by omega)
    rw [hV, Un_split (P := P) (Q := P + k) (by omega) (by omega), Nat.add_sub_cancel_left, Int.mul_left_comm] at h1
    have h2 := Int.eq_of_mul_eq_mul_left (Int.ne_of_gt (Int.ofNat_lt.2 (Nat.two_pow_pos k))) h1
    rw [← Int.sub_eq_add_neg]
    exact h2.symm
end Go.Proofs.YtlhpkflknfmjcaaGreatDoor
namespace Go.Proofs.YtlhpkflknfmjcaaGreatDoor
open Go.RowKit
set_option linter.unusedVariables false
theorem addD (s t : Bool) (ad1 ad2 : Option Addr) (n1 n2 c1 c2 : Nat) (e f C D : Int) (P j : Nat) (w : World) (hx : DyV w s ad1 n1 c1 e (C * Un P)) (hy : DyV w t ad2 n2 c2 f (D * Un P)) (hT : TabAt 2 Lib.deBruijn64tab w) (hC : C.natAbs < 2 ^ j) (hD : D.natAbs < 2 ^ j) (hP : P ≤ 100000) (hj : j < 200000) :
    Calls Tryz.prog 174 #[.agg #[.bool s, .slice ad1 n1 c1, .int .i64 e], .agg #[.bool t, .slice ad2 n2 c2, .int .i64 f]] w fun r w' => DvT w' r ((C + D) * Un P) ∧ Gr w w' := by
  refine (addG s t ad1 ad2 n1 n2 c1 c2 e f _ _ w P j hx hy hT (gd_un hC) (gd_un hD) hP hj).mono ?_
  rintro r w' ⟨s', ad, n, cap, e', rfl, d, g⟩
  exact ⟨⟨_, _, _, _, _, rfl, by rw [Int.add_mul]; exact d⟩, g⟩
theorem subD (s t : Bool) (ad1 ad2 : Option Addr) (n1 n2 c1 c2 : Nat) (e f C D : Int) (P j : Nat) (w : World) (hx : DyV w s ad1 n1 c1 e (C * Un P)) (hy : DyV w t ad2 n2 c2 f (D * Un P)) (hT : TabAt 2 Lib.deBruijn64tab w) (hC : C.natAbs < 2 ^ j) (hD : D.natAbs < 2 ^ j) (hP : P ≤ 100000) (hj : j < 200000) :
    Calls Tryz.prog 177 #[.agg #[.bool s, .slice ad1 n1 c1, .int .i64 e], .agg #[.bool t, .slice ad2 n2 c2, .int .i64 f]] w fun r w' => DvT w' r ((C - D) * Un P) ∧ Gr w w' := by
  refine (subG s t ad1 ad2 n1 n2 c1 c2 e f _ _ w P j hx hy hT (gd_un hC) (gd_un hD) hP hj).mono ?_
  rintro r w' ⟨s', ad, n, cap, e', rfl, d, g⟩
  exact ⟨⟨_, _, _, _, _, rfl, by rw [Int.sub_mul]; exact d⟩, g⟩
theorem un_zero {C : Int} {P : Nat} (h : C * Un P = 0) : C = 0 := by
  have hp := Un_pos P
  rcases Int.mul_eq_zero.1 h with h | h
  · exact h
  · omega
theorem rootD (s : Bool) (ad : Option Addr) (n cap : Nat) (e : Int) (M P Q R j : Nat) (w : World) (d : DyV w s ad n cap e ((M : Int) * Un Q)) (hT : TabAt 2 Lib.deBruijn64tab w) (hQ : Q ≤ 2 * P) (hP : P ≤ 40000) (hM : M < 2 ^ j) (hj : j ≤ 100000) (r1 : R * R ≤ M * 2 ^ (2 * P - Q)) (r2 : M * 2 ^ (2 * P - Q) < (R + 1) * (R + 1)) (hR : R < 2 ^ j) :
    Calls Tryz.prog 175 #[.agg #[.bool s, .slice ad n cap, .int .i64 e], .int .i64 (-(P : Int)), .bool false] w fun r w' => DvT w' r ((R : Int) * Un P) ∧ Gr w w' := by
  have hkk := KK_eq
  have hkn := KN_eq
  have hs := d.sign
  have s0 : s = false := by
    cases s
    · rfl
    · have := hs.1 rfl
      have h2 : 0 ≤ (M : Int) * Un Q := Int.mul_nonneg (Int.natCast_nonneg _) (Int.le_of_lt (Un_pos Q))
      omega
  subst s0
  cases n with
  | zero =>
    have hM0 : M = 0 := by have := un_zero (hs.2.2.1.1 rfl); omega
    have hR0 : R = 0 := by
      rw [hM0, Nat.zero_mul] at r1
      exact (Nat.mul_eq_zero.1 (Nat.le_zero.1 r1)).elim id id
    obtain ⟨x, dx, hV⟩ := d
    refine (root_z false ad cap x e _ w dx (by omega) (by omega)).mono ?_
    rintro r w' ⟨rfl, hG⟩
    exact ⟨⟨_, _, _, _, _, rfl, dyv_zero _ _ (by rw [hR0]; exact Int.zero_mul _)⟩, hG⟩
  | succ n =>
    obtain ⟨x, dx, hV⟩ := d
    have x0 : x ≠ 0 := fun h => by
      have := dx.lim
      rw [h] at this
      have := lim_zero this
      omega
    obtain ⟨q, hq, e1, e2⟩ : ∃ q, x = 2 * q + 1 ∧ -1048576 ≤ e ∧ e ≤ 1048576 := by
      rcases dx.right with ⟨h, _⟩ | h
      · exact absurd h x0
      · exact h
    have hg : Gd Q j ((M : Int) * Un Q) := gd_un (by rw [Int.natAbs_natCast]; exact hM)
    have ho := gd_odd (t := 0) (s := false) (q := q) (e := e) (by rw [Nat.pow_zero, Nat.one_mul, ← hq]; exact hV) hg (by omega) (by omega)
    simp only [Int.natCast_zero, Int.add_zero] at ho
    obtain ⟨o1, o2, o3⟩ := ho
    have hpw : 0 ≤ e + 2 * (P : Int) := by omega
    have hbl : bl x ≤ j := bl_le_of_lt (by rw [hq]; exact o3)
    have eM : RM x (e - 2 * (-(P : Int))) = M * 2 ^ (2 * P - Q) := by
      unfold RM
      rw [if_neg (by omega)]
      have h1 := sv_abs KK false x e
      rw [hV, Int.natAbs_mul, Int.natAbs_natCast] at h1
      have hu : (Un Q).natAbs = 2 ^ (2 * P - Q) * 2 ^ (KN - 2 * P) := by
        unfold Un
        rw [Int.natAbs_natCast, ← Nat.pow_add]
        congr 1
        omega
      rw [hu, show (e + KK).toNat = (e - 2 * (-(P : Int))).toNat + (KN - 2 * P) by omega, Nat.pow_add, ← Nat.mul_assoc, ← Nat.mul_assoc] at h1
      exact (Nat.eq_of_mul_eq_mul_right (Nat.two_pow_pos _) h1).symm
    refine (root_p false ad n cap x R e (-(P : Int)) w dx hT (by omega) (by omega) (by omega) (by rw [eM]; exact r1) (by rw [eM]; exact r2)).mono ?_
    rintro r w' ⟨hS, hG⟩
    refine ⟨?_, hG⟩
    have hU : RUp x (e - 2 * (-(P : Int))) R false = R := by
      unfold RUp
      rw [if_neg (by rintro ⟨h, _⟩; cases h)]
    rw [hU] at hS
    refine hS.dyv (lo := P) (k := j) ?_ (gd_un (by rw [Int.natAbs_natCast]; exact hR)) (by omega) (by omega) (by omega)
    have := sv_un false R P (by omega)
    simpa only [Bool.false_eq_true, if_false] using this
/-- the multiple of 2^-b below a worth, or above it -/
def cutI (V : Int) (b : Nat) (up : Bool) : Int := if up then -((-V) / Un b) else V / Un b
theorem neg_div {x d : Nat} (hd : 0 < d) (hx : x % d ≠ 0) : (-(x : Int)) / (d : Int) = -((x / d : Nat) + 1 : Int) := by
  have h1 := Nat.div_add_mod x d
  have h2 := Nat.mod_lt x hd
  refine ((Int.ediv_emod_unique (a := -(x : Int)) (b := (d : Int)) (r := (d : Int) - (x % d : Nat)) (q := -((x / d : Nat) + 1 : Int)) (by omega)).2 ⟨?_, by omega, by omega⟩).1
  have h3 : ((d * (x / d) + x % d : Nat) : Int) = (x : Int) := by rw [h1]
  rw [Int.natCast_add, Int.natCast_mul] at h3
  rw [Int.mul_neg, Int.mul_add, Int.mul_one]
  omega
theorem cut_num (s up : Bool) (x t b : Nat) (e : Int) (ht : 0 < t) (hx : x % 2 = 1) (he : 0 ≤ e + KK) (hb : -(b : Int) = e + t) (hb2 : b ≤ 1000000) :
    cutI (sv KK s x e) b up = (if s then -((if up == s then x / 2 ^ t else x / 2 ^ t + 1 : Nat) : Int) else ((if up == s then x / 2 ^ t else x / 2 ^ t + 1 : Nat) : Int)) := by
  have hkk := KK_eq
  have hkn := KN_eq
  have hU : Un b = ((2 ^ t : Nat) : Int) * ((2 ^ (e + KK).toNat : Nat) : Int) := by
    unfold Un
    rw [← Int.natCast_mul, ← Nat.pow_add]
    congr 2
    omega
  have hA : (0 : Int) < ((2 ^ (e + KK).toNat : Nat) : Int) := Int.ofNat_lt.2 (Nat.two_pow_pos _)
  have hd : 0 < 2 ^ t := Nat.two_pow_pos t
  have hm : x % 2 ^ t ≠ 0 := fun h => by
    obtain ⟨u, rfl⟩ : ∃ u, t = u + 1 := ⟨t - 1, by omega⟩
    have h1 := Nat.div_add_mod x (2 ^ (u + 1))
    rw [h, Nat.pow_succ, Nat.mul_comm (2 ^ u) 2, Nat.mul_assoc] at h1
    omega
  have hp : (x : Int) / ((2 ^ t : Nat) : Int) = ((x / 2 ^ t : Nat) : Int) := (Int.natCast_ediv x (2 ^ t)).symm
  have hn := neg_div hd hm
  have key : ∀ X : Int, (X * ((2 ^ (e + KK).toNat : Nat) : Int)) / (((2 ^ t : Nat) : Int) * ((2 ^ (e + KK).toNat : Nat) : Int)) = X / ((2 ^ t : Nat) : Int) := fun X => Int.mul_ediv_mul_of_pos_left X _ hA
  unfold cutI sv
  rw [hU]
  cases s <;> cases up
  · show ((x * 2 ^ (e + KK).toNat : Nat) : Int) / _ = ((x / 2 ^ t : Nat) : Int)
    rw [Int.natCast_mul, key, hp]
  · show -((-((x * 2 ^ (e + KK).toNat : Nat) : Int)) / _) = ((x / 2 ^ t + 1 : Nat) : Int)
    rw [Int.natCast_mul, ← Int.neg_mul, key, hn, Int.neg_neg]
    rfl
  · show (-((x * 2 ^ (e + KK).toNat : Nat) : Int)) / _ = -((x / 2 ^ t + 1 : Nat) : Int)
    rw [Int.natCast_mul, ← Int.neg_mul, key, hn]
    rfl
  · show -((-(-((x * 2 ^ (e + KK).toNat : Nat) : Int))) / _) = -((x / 2 ^ t : Nat) : Int)
    rw [Int.neg_neg, Int.natCast_mul, key, hp]
theorem cutI_mul (m : Int) (b : Nat) (up : Bool) : cutI (m * Un b) b up = m := by
  have h := Int.ne_of_gt (Un_pos b)
  unfold cutI
  cases up
  · exact Int.mul_ediv_cancel m h
  · show -((-(m * Un b)) / Un b) = m
    rw [← Int.neg_mul, Int.mul_ediv_cancel _ h, Int.neg_neg]
theorem cutI_un (C : Int) (P b : Nat) (up : Bool) (h : b ≤ P) (hP : P ≤ 1000000) : cutI (C * Un P) b up = if up then -((-C) / ((2 ^ (P - b) : Nat) : Int)) else C / ((2 ^ (P - b) : Nat) : Int) := by
  have hp := Un_pos P
  unfold cutI
  rw [Un_split h hP]
  cases up
  · exact Int.mul_ediv_mul_of_pos_left C _ hp
  · show -((-(C * Un P)) / _) = -((-C) / _)
    rw [← Int.neg_mul, Int.mul_ediv_mul_of_pos_left (-C) _ hp]
end Go.Proofs.YtlhpkflknfmjcaaGreatDoor
