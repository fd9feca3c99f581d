import Derived.Test.YtamjpojnonaecaaGreatDoorM09
import Derived.Test.YtamjpojnonaecaaGreatDoorM21
import Derived.Test.YtamjpojnonaecaaGreatDoorM40
namespace Go.Proofs.YtamjpojnonaecaaGreatDoor.Fl
open Go.RowKit
open Ieee
set_option linter.unusedVariables false

/-! Ldexp BY A POWER BELOW 0, OF ANY FLOAT: the sign stays, the rung goes by the rung alone -/
theorem and_top (s : Bool) (n : Nat) (h : n < 9223372036854775808) : W s n &&& 9223372036854775808 = W s 0 := by
  rw [show (9223372036854775808 : Nat) = 2 ^ 63 from rfl]
  have e : W s 0 = s.toNat * 2 ^ 63 := by cases s <;> rfl
  rw [e]
  apply Nat.eq_of_testBit_eq
  intro i
  rw [Nat.testBit_and, Nat.testBit_two_pow]
  by_cases hi : 63 = i
  · subst hi
    have : (W s n).testBit 63 = s := by
      cases s
      · exact Nat.testBit_lt_two_pow (show W false n < 2 ^ 63 from h)
      · rw [show W true n = 2 ^ 63 + n from rfl, Nat.testBit_two_pow_add_eq, Nat.testBit_lt_two_pow (show n < 2 ^ 63 from h)]; rfl
    rw [this]
    cases s
    · simp
    · rw [show true.toNat * 2 ^ 63 = 2 ^ 63 from rfl, Nat.testBit_two_pow]; simp
  · rw [decide_eq_false hi, Bool.and_false]
    cases s
    · simp
    · rw [show true.toNat * 2 ^ 63 = 2 ^ 63 from rfl, Nat.testBit_two_pow]; simp [hi]
theorem copy_zero (s : Bool) (n : Nat) (w : World) (h : n < 9223372036854775808) : Calls Tryz.prog 19 #[.float .f64 0, .float .f64 (W s n)] w fun e w' => e = .returned (.float .f64 (W s 0)) ∧ w' = w := by
  have b1 := bits14
  have b2 := from13
  have h1 : bits BinOp.and IntKind.u64 (W s n : Nat) 9223372036854775808 = ((W s 0 : Nat) : Int) := by
    have := u64_and_nat (W s n) 9223372036854775808 (W_lt s n h) (by omega)
    rw [and_top s n h] at this
    exact this
  have h2 : bits BinOp.andNot IntKind.u64 0 9223372036854775808 = 0 := by decide +kernel
  have h3 : bits BinOp.or IntKind.u64 0 ((W s 0 : Nat) : Int) = ((W s 0 : Nat) : Int) := by cases s <;> decide +kernel
  have h4 : (((W s 0 : Nat) : Int)).toNat = W s 0 := Int.toNat_natCast _
  generalize W s 0 = z at *
  generalize W s n = x at *
  go_enter Tryz.func19, Tryz.ntmps19
  go_wp2
  go_ret
  exact ⟨rfl, rfl⟩
theorem ldexp_nan (x : Nat) (e : Int) (w : World) (h0 : zeroB x = false) (h : nanB x = true) :
    Calls Tryz.prog 80 #[.float .f64 x, .int .i64 e] w fun e w' => e = .returned (.float .f64 x) ∧ w' = w := by
  refine ldexp71 _ _ e w fun w => ?_
  unfold zeroB at h0
  cases h1 : pinfB (absN x)
  · go_enter Tryz.func100, Tryz.ntmps100
    go_wp2_with (first | (go_at_call 105; refine (inf12z _ _).mono ?_; rintro e w' ⟨rfl, rfl⟩) | (go_at_call 61; refine (nan11 _ _).mono ?_; rintro e w' ⟨rfl, rfl⟩))
    go_ret
    exact ⟨rfl, rfl⟩
  · go_enter Tryz.func100, Tryz.ntmps100
    go_wp2_with (first | (go_at_call 105; refine (inf12z _ _).mono ?_; rintro e w' ⟨rfl, rfl⟩) | (go_at_call 61; refine (nan11 _ _).mono ?_; rintro e w' ⟨rfl, rfl⟩))
    go_ret
    exact ⟨rfl, rfl⟩
/-- Ldexp below all floats -/
theorem ldexp87u (x f z : Nat) (e k E S : Int) (w : World) (h0 : zeroB x = false) (h1 : pinfB (absN x) = false) (h2 : nanB x = false)
    (hn : ∀ w, Calls Tryz.prog 106 #[.float .f64 x] w fun e w' => e = .returned (.tuple #[.float .f64 f, .int .i64 k]) ∧ w' = w) (he1 : -5000 ≤ e) (he2 : e ≤ 5000000) (hk1 : -52 ≤ k) (hk2 : k ≤ 0)
    (hE : bits BinOp.and IntKind.i64 (wrap64 (↑f / 4503599627370496)) 2047 = E) (hE1 : 0 ≤ E) (hE2 : E ≤ 2047) (hS : e + k + (E - 1023) = S) (hS1 : S < -1075)
    (hc : ∀ w, Calls Tryz.prog 19 #[.float .f64 0, .float .f64 f] w fun e w' => e = .returned (.float .f64 z) ∧ w' = w) :
    Calls Tryz.prog 100 #[.float .f64 x, .int .i64 e] w fun e w' => e = .returned (.float .f64 z) ∧ w' = w := by
  unfold zeroB at h0
  have b1 := bits14
  have b2 := from13
  have HN : Hid (∀ w, Calls Tryz.prog 106 #[.float .f64 x] w fun e w' => e = .returned (.tuple #[.float .f64 f, .int .i64 k]) ∧ w' = w) := hn
  have HC : Hid (∀ w, Calls Tryz.prog 19 #[.float .f64 0, .float .f64 f] w fun e w' => e = .returned (.float .f64 z) ∧ w' = w) := hc
  clear hn hc
  subst hS
  go_enter Tryz.func100, Tryz.ntmps100
  go_wp2_with (first | (go_at_call 105; refine (inf12z _ _).mono ?_; rintro e w' ⟨rfl, rfl⟩) | (go_at_call 61; refine (nan11 _ _).mono ?_; rintro e w' ⟨rfl, rfl⟩) | (go_at_call 106; refine (HN.out _).mono ?_; rintro e w' ⟨rfl, rfl⟩) | (go_at_call 19; (with_reducible refine (HC.out _).mono ?_); rintro e w' ⟨rfl, rfl⟩))
  go_ret
  exact ⟨rfl, rfl⟩
/-- norm_spec for both signs at once -/
theorem norm_all (r : Nat) (h0 : 0 < r) (hr : r < 9218868437227405312) :
    ∃ n, ∃ k : Int, 4503599627370496 ≤ n ∧ n < 9218868437227405312 ∧ (k = 0 ∨ k = -52) ∧
      (∀ P : Nat, (P : Int) = (n / 4503599627370496 : Nat) - 1 + k + 52 → M r * 2 ^ 52 = (4503599627370496 + n % 4503599627370496) * 2 ^ P) ∧
      ∀ s w, Calls Tryz.prog 106 #[.float .f64 (W s r)] w fun e w' => e = .returned (.tuple #[.float .f64 (W s n), .int .i64 k]) ∧ w' = w := by
  have habs : ∀ s, (FloatKind.f64.format.order (absN (W s r)) 4503599627370496 == some .lt) = decide (val false r < val false 4503599627370496) := fun s => by
    have h := B_lt false false r 4503599627370496 (by omega) (by omega)
    rw [show W false r = absN (W s r) from (abs_W s r (by omega)).symm, show W false 4503599627370496 = 4503599627370496 from rfl] at h
    exact h
  have hv : (val false r < val false 4503599627370496) ↔ r < 4503599627370496 := by
    unfold val
    simp only [Bool.false_eq_true, if_false]
    rw [Int.ofNat_lt]
    exact M_lt_iff
  by_cases hs : r < 4503599627370496
  · obtain ⟨n, hn, hn2⟩ := rep 52 r (by omega)
    have hMr : M r = r := by
      have := M_at 0 r (Or.inr ⟨rfl, by omega⟩)
      rw [Nat.zero_mul, Nat.zero_add] at this
      rw [this]; simp
    have hnI : n < 9218868437227405312 := by omega
    have hnB : 4503599627370496 ≤ n := by
      refine Nat.le_of_not_lt fun hlt => ?_
      have hMn : M n = n := by
        have := M_at 0 n (Or.inr ⟨rfl, by omega⟩)
        rw [Nat.zero_mul, Nat.zero_add] at this
        rw [this]; simp
      rw [hMn] at hn
      have : (2 : Nat) ^ 52 = 4503599627370496 := rfl
      rw [this] at hn
      omega
    refine ⟨n, -52, hnB, hnI, Or.inr rfl, ?_, fun s w => norm90s _ _ w (by rw [habs s]; exact decide_eq_true (hv.2 hs)) ?_⟩
    · intro P hP
      have hP' : P = ex n := by unfold ex; omega
      rw [hMr, ← hn, hP']
      unfold M mant
      rw [if_neg (by omega)]
    · have hx := mul_exact s false r 4841369599423283200 n hr (by omega) (by omega) (by
        rw [hMr, M_52, hn, ← Nat.mul_assoc])
      rw [Bool.xor_false] at hx
      exact hx
  · refine ⟨r, 0, by omega, hr, Or.inl rfl, ?_, fun s w => norm90n _ w (by rw [habs s]; exact decide_eq_false (fun h => hs (hv.1 h)))⟩
    intro P hP
    have hP' : P = ex r + 52 := by unfold ex; omega
    rw [hP', Nat.pow_add, ← Nat.mul_assoc]
    congr 1
    unfold M mant
    rw [if_neg (by omega)]
/-- the size of what has its first digit at the front -/
theorem M_front (Q n : Nat) : M (Q * 4503599627370496 + (4503599627370496 + n % 4503599627370496)) = (4503599627370496 + n % 4503599627370496) * 2 ^ Q := M_at Q _ (Or.inl ⟨by omega, by omega⟩)
def E21b : Nat := 1021
theorem M_m53 : M 4368491638549381120 = 2 ^ E21b := by
  have h := M_at (E21b - 52) 4503599627370496 (Or.inl ⟨by omega, by omega⟩)
  have e : (E21b - 52) * 4503599627370496 + 4503599627370496 = 4368491638549381120 := rfl
  rw [e] at h
  rw [h, show (4503599627370496 : Nat) = 2 ^ 52 from rfl, ← Nat.pow_add]
  congr 1
theorem U_53 : 2 ^ 53 * 2 ^ E21b = U := by
  unfold U
  rw [← Nat.pow_add]
  have : 53 + E21b = E74 := rfl
  rw [this]
theorem W_one {s : Bool} {a b : Nat} (h : W s a = W s b) : a = b := by
  unfold W at h
  cases s
  · simpa using h
  · simpa using h
theorem ldexp_fin (r : Nat) (e : Int) (h0 : 0 < r) (hr : r < 9218868437227405312) (he1 : -14 ≤ e) (he2 : e ≤ 0) :
    ∃ R, R ≤ 9218868437227405312 ∧ (∀ R2, R2 ≤ 9218868437227405312 → M r = M R2 * 2 ^ (-e).toNat → R = R2) ∧ ∀ s w, Calls Tryz.prog 80 #[.float .f64 (W s r), .int .i64 e] w fun e w' => e = .returned (.float .f64 (W s R)) ∧ w' = w := by
  obtain ⟨n, k, hB, hI, hk, hM, hC⟩ := norm_all r h0 hr
  have ff := fun s => fin_facts s r h0 hr
  have hE : n / 4503599627370496 < 2047 := by omega
  have hE1 : 1 ≤ n / 4503599627370496 := by omega
  obtain ⟨S, hS⟩ : ∃ S : Int, e + k + (((n / 4503599627370496 : Nat) : Int) - 1023) = S := ⟨_, rfl⟩
  obtain ⟨P, hP⟩ : ∃ P : Nat, (P : Int) = (n / 4503599627370496 : Nat) - 1 + k + 52 := ⟨((n / 4503599627370496 : Nat) - 1 + k + 52 : Int).toNat, by omega⟩
  have hMP := hM P hP
  have hSP : S = e + P - 1074 := by omega
  obtain ⟨d, hd⟩ : ∃ d : Nat, (d : Int) = -e := ⟨(-e).toNat, by omega⟩
  have hd2 : (-e).toNat = d := by omega
  rw [hd2]
  by_cases h1 : -1022 ≤ S
  · obtain ⟨Q, hQ⟩ : ∃ Q : Nat, (Q : Int) = S + 1022 := ⟨(S + 1022).toNat, by omega⟩
    have hz : Q * 4503599627370496 + (4503599627370496 + n % 4503599627370496) < 9218868437227405312 := by omega
    refine ⟨_, Nat.le_of_lt hz, fun R2 _ h2 => ?_, fun s w => ?_⟩
    · refine M_inj ?_
      rw [M_front]
      have hPQ : P = Q + d + 52 := by omega
      rw [hPQ, Nat.pow_add, Nat.pow_add, ← Nat.mul_assoc, ← Nat.mul_assoc] at hMP
      have h3 := Nat.eq_of_mul_eq_mul_right (Nat.two_pow_pos 52) hMP
      rw [h2] at h3
      exact (Nat.eq_of_mul_eq_mul_right (Nat.two_pow_pos d) h3).symm
    clear hMP hM
    have hput := bit_put s (n % 4503599627370496) (Q + 1) (by omega) (by omega)
    have e1 : (((Q + 1) * 4503599627370496 : Nat) : Int) = (S + 1023) * 4503599627370496 := by omega
    have e2 : (Q + 1) * 4503599627370496 + n % 4503599627370496 = Q * 4503599627370496 + (4503599627370496 + n % 4503599627370496) := by omega
    rw [e1, e2] at hput
    have hone := mul_exact false s 4607182418800017408 _ _ (by omega) hz (Nat.le_of_lt hz) (by rw [M_1, Nat.mul_comm])
    rw [show W false 4607182418800017408 = 4607182418800017408 from rfl, Bool.false_xor] at hone
    exact ldexp71 _ _ e w (fun w => ldexp87 _ _ _ _ e k _ S w (ff s).1 (ff s).2.1 (ff s).2.2 (hC s) (by omega) (by omega) (by omega) (by omega) (i64_exp s n (by omega)) (by omega) (by omega) hS h1 (by omega) (bit_cut s n (by omega)) hput hone)
  by_cases h2 : -1075 ≤ S
  · obtain ⟨Q, hQ⟩ : ∃ Q : Nat, (Q : Int) = S + 53 + 1022 := ⟨(S + 53 + 1022).toNat, by omega⟩
    have hz : Q * 4503599627370496 + (4503599627370496 + n % 4503599627370496) < 9218868437227405312 := by omega
    refine ⟨rgN (mant 4368491638549381120 * mant (Q * 4503599627370496 + (4503599627370496 + n % 4503599627370496))) (-1074 + (ex 4368491638549381120 : Int) + (-1074 + (ex (Q * 4503599627370496 + (4503599627370496 + n % 4503599627370496)) : Int))), nearest_le _ _, fun R2 hR2 h3 => ?_, fun s w => ?_⟩
    · have hmul := mul_W false false 4368491638549381120 _ (by omega) hz
      have hx := mul_exact false false 4368491638549381120 (Q * 4503599627370496 + (4503599627370496 + n % 4503599627370496)) R2 (by omega) hz hR2 (by
        rw [M_front, M_m53]
        have hPQ : Q + d = P + 1 := by omega
        have h4 : (4503599627370496 + n % 4503599627370496) * 2 ^ Q * 2 ^ d = M r * 2 ^ 52 * 2 ^ 1 := by
          rw [Nat.mul_assoc, ← Nat.pow_add, hPQ, Nat.pow_add, ← Nat.mul_assoc, ← hMP]
        rw [h3] at h4
        have h5 : (4503599627370496 + n % 4503599627370496) * 2 ^ Q = M R2 * 2 ^ 53 := by
          refine Nat.eq_of_mul_eq_mul_right (Nat.two_pow_pos d) ?_
          rw [h4, Nat.mul_assoc (M R2 * 2 ^ d), ← Nat.pow_add, Nat.mul_right_comm]
        rw [Nat.mul_comm, h5, Nat.mul_assoc, U_53])
      rw [hmul, nearest_W] at hx
      exact W_one (Option.some.inj hx)
    clear hMP hM
    have hput := bit_put s (n % 4503599627370496) (Q + 1) (by omega) (by omega)
    have e1 : (((Q + 1) * 4503599627370496 : Nat) : Int) = (S + 53 + 1023) * 4503599627370496 := by omega
    have e2 : (Q + 1) * 4503599627370496 + n % 4503599627370496 = Q * 4503599627370496 + (4503599627370496 + n % 4503599627370496) := by omega
    rw [e1, e2] at hput
    have hmul := mul_W false s 4368491638549381120 _ (by omega) hz
    rw [show W false 4368491638549381120 = 4368491638549381120 from rfl, Bool.false_xor, nearest_W] at hmul
    exact ldexp71 _ _ e w (fun w => ldexp87s _ _ _ _ _ e k _ S w (ff s).1 (ff s).2.1 (ff s).2.2 (hC s) (by omega) (by omega) (by omega) (by omega) (i64_exp s n (by omega)) (by omega) (by omega) hS h2 (by omega) (bit_cut s n (by omega)) hput hmul)
  · refine ⟨0, by omega, fun R2 _ h3 => ?_, fun s w => ?_⟩
    · rcases Nat.eq_zero_or_pos R2 with h4 | h4
      · exact h4.symm
      · exfalso
        have h5 := M_pos h4
        have h6 : 2 ^ (d + 52) ≤ M r * 2 ^ 52 := by
          rw [h3, Nat.pow_add]
          refine Nat.mul_le_mul_right _ ?_
          have := Nat.mul_le_mul_right (2 ^ d) h5
          rw [Nat.succ_mul, Nat.zero_mul, Nat.zero_add] at this
          exact this
        rw [hMP] at h6
        have h7 : (4503599627370496 + n % 4503599627370496) * 2 ^ P < 2 ^ (53 + P) := by
          rw [Nat.pow_add]
          exact Nat.mul_lt_mul_of_pos_right (by have : (2 : Nat) ^ 53 = 9007199254740992 := rfl; omega) (Nat.two_pow_pos P)
        have h8 : 2 ^ (53 + P) ≤ 2 ^ (d + 52) := Nat.pow_le_pow_right (by omega) (by omega)
        omega
    exact ldexp71 _ _ e w (fun w => ldexp87u _ _ _ e k _ S w (ff s).1 (ff s).2.1 (ff s).2.2 (hC s) (by omega) (by omega) (by omega) (by omega) (i64_exp s n (by omega)) (by omega) (by omega) hS (by omega) (fun w => copy_zero s n w (by omega)))
structure LdH (e : Int) (H : Nat → Nat) : Prop where
  calls : ∀ s r, r < 9223372036854775808 → ∀ w, Calls Tryz.prog 80 #[.float .f64 (W s r), .int .i64 e] w fun x w' => x = .returned (.float .f64 (W s (H r))) ∧ w' = w
  zero : H 0 = 0
  fin : ∀ r, r ≤ 9218868437227405312 → H r ≤ 9218868437227405312
  nan : ∀ r, 9218868437227405312 ≤ r → H r = r
  exact : ∀ r R, r < 9218868437227405312 → R ≤ 9218868437227405312 → M r = M R * 2 ^ (-e).toNat → H r = R
theorem ldexp_all (e : Int) (he1 : -14 ≤ e) (he2 : e ≤ 0) : ∃ H, LdH e H := by
  have key : ∀ r, ∃ R, (0 < r → r < 9218868437227405312 → R ≤ 9218868437227405312 ∧ (∀ R2, R2 ≤ 9218868437227405312 → M r = M R2 * 2 ^ (-e).toNat → R = R2) ∧ ∀ s w, Calls Tryz.prog 80 #[.float .f64 (W s r), .int .i64 e] w fun e w' => e = .returned (.float .f64 (W s R)) ∧ w' = w) := fun r => by
    by_cases h : 0 < r ∧ r < 9218868437227405312
    · obtain ⟨R, h1⟩ := ldexp_fin r e h.1 h.2 he1 he2
      exact ⟨R, fun _ _ => h1⟩
    · exact ⟨0, fun h1 h2 => absurd ⟨h1, h2⟩ h⟩
  obtain ⟨H0, hH⟩ := Classical.axiomOfChoice key
  refine ⟨fun r => if 0 < r ∧ r < 9218868437227405312 then H0 r else r, ⟨fun s r hr w => ?_, by simp, fun r hr => ?_, fun r hr => ?_, fun r R hr hR hm => ?_⟩⟩
  · by_cases h : 0 < r ∧ r < 9218868437227405312
    · simp only [if_pos h]
      exact (hH r h.1 h.2).2.2 s w
    · simp only [if_neg h]
      rcases Nat.lt_trichotomy r 9218868437227405312 with h1 | h1 | h1
      · obtain rfl : r = 0 := by omega
        exact ldexp_same _ e w (by rw [zeroB_W s 0 (by omega)]; rfl)
      · subst h1
        refine ldexp_same _ e w ?_
        have : pinfB (absN (W s 9218868437227405312)) = true := by cases s <;> decide +kernel
        rw [this, Bool.or_true]
      · have hn : nanB (W s r) = true := by rw [nanB_W s r hr]; exact decide_eq_true h1
        have hz : zeroB (W s r) = false := by
          unfold zeroB
          rw [f64_format, order_nan_left s r 0 hr h1]; rfl
        exact ldexp_nan _ e w hz hn
  · by_cases h : 0 < r ∧ r < 9218868437227405312
    · simp only [if_pos h]
      exact (hH r h.1 h.2).1
    · simp only [if_neg h]; exact hr
  · simp only [if_neg (show ¬ (0 < r ∧ r < 9218868437227405312) by omega)]
  · by_cases h : 0 < r ∧ r < 9218868437227405312
    · simp only [if_pos h]
      exact (hH r h.1 h.2).2.1 R hR hm
    · simp only [if_neg h]
      obtain rfl : r = 0 := by omega
      rcases Nat.eq_zero_or_pos R with h4 | h4
      · exact h4.symm
      · exfalso
        have h5 := Nat.mul_pos (M_pos h4) (Nat.two_pow_pos (-e).toNat)
        rw [← hm, M_zero] at h5
        omega
end Go.Proofs.YtamjpojnonaecaaGreatDoor.Fl
namespace Go.Proofs.YtamjpojnonaecaaGreatDoor.Fl
open Go.RowKit
open Ieee
set_option linter.unusedVariables false

/-! REAL: what is alike, orders, rows of reals -/
theorem like_fin (s t : Bool) (a b : Nat) (ha : a ≤ 9218868437227405312) (hb : b ≤ 9218868437227405312) : decide (val s a = val t b) = decide (cl (W s a) = cl (W t b)) := by
  rw [cl_W s a ha, cl_W t b hb]
  have hM : ∀ x y, M x = M y ↔ x = y := fun x y => ⟨M_inj, fun e => by rw [e]⟩
  by_cases h1 : a = 0
  · subst h1
    by_cases h2 : b = 0
    · subst h2; cases s <;> cases t <;> decide
    · have := M_pos (show 0 < b by omega)
      rw [if_pos rfl, if_neg h2]
      rw [decide_eq_false, decide_eq_false]
      · cases t <;> unfold W <;> simp <;> omega
      · rw [val_zero]; cases t <;> unfold val <;> simp <;> omega
  · have p1 := M_pos (show 0 < a by omega)
    by_cases h2 : b = 0
    · subst h2
      rw [if_pos rfl, if_neg h1]
      rw [decide_eq_false, decide_eq_false]
      · cases s <;> unfold W <;> simp <;> omega
      · rw [val_zero]; cases s <;> unfold val <;> simp <;> omega
    · have p2 := M_pos (show 0 < b by omega)
      rw [if_neg h1, if_neg h2]
      have e1 := hM a b
      cases s <;> cases t <;> unfold val W <;> simp only [Bool.false_eq_true, if_false, if_true]
      · rw [decide_eq_decide]; omega
      · rw [decide_eq_false (by omega), decide_eq_false (by omega)]
      · rw [decide_eq_false (by omega), decide_eq_false (by omega)]
      · rw [decide_eq_decide]; omega
theorem cl_notnan {x : Nat} (h : nanB x = false) : cl x ≠ QN := by
  unfold cl
  rw [h]
  intro e
  by_cases h1 : x = 9223372036854775808
  · simp [h1] at e
    exact absurd e (by decide)
  · simp [h1] at e
    rw [e, nan_QN] at h
    cases h
theorem likeB_cl {x y : Nat} (hx : x < 18446744073709551616) (hy : y < 18446744073709551616) : likeB x y = decide (cl x = cl y) := by
  cases n1 : nanB x
  · cases n2 : nanB y
    · obtain ⟨s, a, rfl, ha⟩ := W_split x hx
      obtain ⟨t, b, rfl, hb⟩ := W_split y hy
      rw [nanB_W s a ha] at n1
      rw [nanB_W t b hb] at n2
      have a1 := of_decide_eq_false n1
      have b1 := of_decide_eq_false n2
      unfold likeB
      rw [nanB_W s a ha, n1, Bool.false_and, Bool.or_false, f64_format, order_W s t a b (by omega) (by omega), ← like_fin s t a b (by omega) (by omega)]
      rcases Int.lt_trichotomy (val s a) (val t b) with h | h | h
      · rw [compare_lt h, decide_eq_false (by omega)]; rfl
      · rw [compare_eq h, decide_eq_true h]; rfl
      · rw [compare_gt h, decide_eq_false (by omega)]; rfl
    · unfold likeB
      rw [n1, Bool.false_and, Bool.or_false, cl_nan n2]
      rw [decide_eq_false (cl_notnan n1)]
      have h2 := read_nan hy n2
      obtain ⟨s', f', h3⟩ := h2
      rw [f64_format]
      unfold Format.order
      rw [h3]
      cases double.read x <;> rfl
  · cases n2 : nanB y
    · unfold likeB
      rw [n2, Bool.and_false, Bool.or_false, cl_nan n1]
      rw [decide_eq_false (fun e => cl_notnan n2 e.symm)]
      obtain ⟨s', f', h3⟩ := read_nan hx n1
      rw [f64_format]
      unfold Format.order
      rw [h3]
      cases double.read y <;> rfl
    · unfold likeB
      rw [n1, n2, Bool.and_true, Bool.or_true, cl_nan n1, cl_nan n2]
      exact (decide_eq_true rfl).symm
theorem likePartP (x y : Nat) (w : World) : Calls Tryz.prog 48 #[.float .f64 x, .float .f64 y] w fun e w' => e = .returned (.bool (likeB x y)) ∧ w' = w := by
  unfold likeB
  cases hx : (FloatKind.f64.format.order x y == some .eq) <;> cases hn : nanB x <;> cases hm : nanB y
  all_goals
    go_enter Tryz.func48, Tryz.ntmps48
    go_wp2_with (go_at_call 61; refine (nan11 _ _).mono ?_; rintro e w' ⟨rfl, rfl⟩)
    go_ret
    exact ⟨rfl, rfl⟩
theorem likeP (x y u v : Nat) (b : Bool) (w : World) (h : (likeB x u && likeB y v) = b) : Calls Tryz.prog 25 #[.complex .f64 x y, .complex .f64 u v] w fun e w' => e = .returned (.bool b) ∧ w' = w := by
  subst h
  cases h1 : likeB x u <;> cases h2 : likeB y v
  all_goals
    go_enter Tryz.func25, Tryz.ntmps25
    go_wp2_with (go_at_call 48; (with_reducible refine (likePartP _ _ _).mono ?_); rintro e w' ⟨rfl, rfl⟩)
    go_ret
    exact ⟨rfl, rfl⟩
theorem hasOrderP (n : Int) (w : World) (h0 : 0 < n) (h1 : n ≤ 16384) (h2 : bits .and .i64 n (n - 1) = 0) : Calls Tryz.prog 38 #[.int .i64 n] w fun e w' => e = .returned (.bool true) ∧ w' = w := by
  have e1 : n > 0 := h0
  go_enter Tryz.func38, Tryz.ntmps38
  go_wp2
  go_ret
  exact ⟨rfl, rfl⟩
theorem hasOrderK (k : Nat) (n : Int) (w : World) (hk : k ≤ 14) (hn : ((2 ^ k : Nat) : Int) = n) : Calls Tryz.prog 38 #[.int .i64 n] w fun e w' => e = .returned (.bool true) ∧ w' = w := by
  have key : (List.range 15).all (fun k => decide (0 < ((2 ^ k : Nat) : Int)) && decide (((2 ^ k : Nat) : Int) ≤ 16384) && decide (bits .and .i64 ((2 ^ k : Nat) : Int) (((2 ^ k : Nat) : Int) - 1) = 0)) = true := by decide +kernel
  have h := List.all_eq_true.1 key k (List.mem_range.2 (by omega))
  simp only [Bool.and_eq_true, decide_eq_true_eq] at h
  subst hn
  exact hasOrderP _ w h.1.1 h.1.2 h.2
theorem hasOrderN (n : Int) (w : World) (h : ¬ (0 < n ∧ n ≤ 16384 ∧ bits .and .i64 n (n - 1) = 0)) (b1 : -9223372036854775807 ≤ n) (b2 : n ≤ 9223372036854775807) : Calls Tryz.prog 38 #[.int .i64 n] w fun e w' => e = .returned (.bool false) ∧ w' = w := by
  by_cases h0 : n > 0
  · by_cases h1 : n ≤ 16384
    · have h2 : (bits .and .i64 n (n - 1) == 0) = false := by rw [beq_eq_false_iff_ne]; exact fun e => h ⟨h0, h1, e⟩
      clear h
      go_enter Tryz.func38, Tryz.ntmps38
      go_wp2
      go_ret
      exact ⟨rfl, rfl⟩
    · clear h
      go_enter Tryz.func38, Tryz.ntmps38
      go_wp2
      go_ret
      exact ⟨rfl, rfl⟩
  · clear h
    go_enter Tryz.func38, Tryz.ntmps38
    go_wp2
    go_ret
    exact ⟨rfl, rfl⟩
/-! rows of reals -/
def fz (xs : List Nat) : List Value := xs.map fun x => Value.float .f64 x
theorem fz_length (xs : List Nat) : (fz xs).length = xs.length := by simp [fz]
theorem fz_append (xs ys : List Nat) : fz (xs ++ ys) = fz xs ++ fz ys := by simp [fz]
theorem fz_get {xs : List Nat} {j : Nat} (h : j < xs.length) : (fz xs)[j]? = some (.float .f64 (xs.getD j 0)) := by
  unfold fz
  rw [List.getElem?_map, List.getElem?_eq_getElem h, List.getD_eq_getElem?_getD, List.getElem?_eq_getElem h]
  rfl
theorem fz_one (xs : List Nat) : ∀ u ∈ fz xs, u.oneCell' = true := by
  intro u hu
  simp only [fz, List.mem_map] at hu
  obtain ⟨p, _, rfl⟩ := hu
  rfl
structure FR (w : World) (ad : Option Addr) (n cap : Nat) (xs : List Nat) : Prop where
  len : xs.length = n
  le : n ≤ cap
  max : cap ≤ 9223372036854775807
  nil : ad = none → cap = 0
  cells : 0 < n → ∃ b, ad = some ⟨b, 0, none⟩ ∧ b < w.heap.size ∧ ∀ j, j < n → w.cell? ⟨b, j, none⟩ = some (.float .f64 (xs.getD j 0))
theorem FR.gr {w w' : World} {ad : Option Addr} {n cap : Nat} {xs : List Nat} (h : FR w ad n cap xs) (g : Gr w w') : FR w' ad n cap xs := by
  refine ⟨h.len, h.le, h.max, h.nil, fun hp => ?_⟩
  obtain ⟨b, e, hb, hc⟩ := h.cells hp
  exact ⟨b, e, Nat.lt_of_lt_of_le hb g.size, fun j hj => g.keep (hc j hj)⟩
theorem FR.of_owns {w : World} {base : Nat} {v : Value} {n : Nat} {xs : List Nat} (h : w.ownsRow base 27 1 v n (fz xs)) : ∃ ad cap, v = .slice ad n cap ∧ FR w ad n cap xs := by
  have hl : xs.length = n := by have := h.1; rw [fz_length] at this; omega
  rcases h.2 with ⟨rfl, rfl⟩ | ⟨g, cap, cur, rfl, hb, hg, h1, h2, h3, h4⟩
  · exact ⟨none, 0, rfl, by rw [List.eq_nil_of_length_eq_zero hl]; exact ⟨rfl, by omega, by omega, fun _ => rfl, fun h => absurd h (by omega)⟩⟩
  · refine ⟨_, cap, rfl, hl, h1, h2, (fun h => by cases h), fun hp => ⟨g, rfl, (h.lt g rfl).2, fun j hj => ?_⟩⟩
    rw [h.cellAt j (by omega), fz_get (by omega)]
theorem infoF : (Tryz.prog.info? 27).map (fun i => (i.zero, i.size, i.bytes)) = some (some (.float .f64 0), 1, 8) := by kernel_rfl
/-- ONE REAL IS APPENDED TO A ROW OF THE CALL's OWN -/
theorem wpList_pushF {w0 : World} {ops : Array Oper} {rest : List Oper} {o : Oper} {a : Act} {Q : Exit → Act → World → Prop} (hgd : o.guard = none) (s x : Operand)
    (ho : o.op = .call { callee := .builtin .append, args := #[s, x], argTypes := #[33, 33] }) {base : Nat} {v : Value} {n : Nat} {xs : List Nat} (hown : w0.ownsRow base 27 1 v n (fz xs)) (y : Nat)
    (hs : a.eval s = v) (hx : a.eval x = .slice (some ⟨w0.heap.size, 0, none⟩) 1 1) (hn : n ≤ 4398046511104) (hb : base ≤ w0.heap.size)
    (h : ∀ v' w', w'.ownsRow base 27 1 v' (n + 1) (fz (xs ++ [y])) → (∀ a0, Gr a0 w0 → a0.heap.size ≤ base → Gr a0 w') → wpList Tryz.prog ops Q rest (a.put o.dst v') w') :
    wpList Tryz.prog ops Q (o :: rest) a (w0.alloc (.cells #[.float .f64 y] 27)) := by
  obtain ⟨i0, hi, hz0, hz1, hz2⟩ := info_parts infoF
  refine wpList_append_own _ hgd s x 33 ho base 27 i0 (.float .f64 0) 1 8 Tryz.underlying33 hi hz0 hz1 hz2 rfl (by decide) v n (fz xs) hs (hown.alloc _) ⟨w0.heap.size, 0, none⟩ 1 1 (fz [y]) hx rfl ?_ (fz_one _) (by unfold maxLen; omega) (by omega) (by simp; omega) ?_
  · intro j u hj
    match j, hj with
    | 0, hj => simp [fz] at hj; subst hj; simp [Addr.add]
  · intro v' w' hown' hgr _
    refine h v' w' ?_ ?_
    · rw [fz_append]; exact hown'
    · intro a0 hg hle
      exact (hg.alloc _).grown hgr (fun k hk => Nat.le_trans hle (hown.lt k hk).1)
end Go.Proofs.YtamjpojnonaecaaGreatDoor.Fl
