import Derived.Test.YtaiflkpanankcaaDoorD4
namespace Go.Proofs.YtaiflkpanankcaaDoor.Fl
open Go.RowKit
open Ieee
set_option linter.unusedVariables false

theorem norm90s (x r : Nat) (w : World) (h : (FloatKind.f64.format.order (absN x) 4503599627370496 == some .lt) = true) (hm : double.mul x 4841369599423283200 = some r) :
    Calls Tryd.prog 81 #[.float .f64 x] w fun e w' => e = .returned (.tuple #[.float .f64 r, .int .i64 (-52)]) ∧ w' = w := by
  have g3 := mul_run w _ _ _ hm
  clear hm
  go_enter Tryd.func81, Tryd.ntmps81
  go_wp2_with (go_at_call 47; refine (abs16 _ _).mono ?_; rintro e w' ⟨rfl, rfl⟩)
  go_ret2
  exact ⟨rfl, rfl⟩
theorem norm90n (x : Nat) (w : World) (h : (FloatKind.f64.format.order (absN x) 4503599627370496 == some .lt) = false) :
    Calls Tryd.prog 81 #[.float .f64 x] w fun e w' => e = .returned (.tuple #[.float .f64 x, .int .i64 0]) ∧ w' = w := by
  go_enter Tryd.func81, Tryd.ntmps81
  go_wp2_with (go_at_call 47; refine (abs16 _ _).mono ?_; rintro e w' ⟨rfl, rfl⟩)
  go_ret2
  exact ⟨rfl, rfl⟩

theorem M_52 : M 4841369599423283200 = 4503599627370496 * U := by
  have h := M_at E74 4503599627370496 (Or.inl ⟨by omega, by omega⟩)
  have e : E74 * 4503599627370496 + 4503599627370496 = 4841369599423283200 := rfl
  rw [e] at h
  unfold U
  exact h

/-- a float that is not 0, its first digit at the front: m times 2 to the power (P - 52), in units of the least float -/
theorem norm_spec (s : Bool) (r : Nat) (h0 : 0 < r) (hr : r < 9218868437227405312) :
    ∃ n, ∃ k : Int, 4503599627370496 ≤ n ∧ n < 9218868437227405312 ∧ (k = 0 ∨ k = -52) ∧
      (∀ P : Nat, (P : Int) = (n / 4503599627370496 : Nat) - 1 + k + 52 → M r * 2 ^ 52 = (4503599627370496 + n % 4503599627370496) * 2 ^ P) ∧
      ∀ w, Calls Tryd.prog 81 #[.float .f64 (W s r)] w fun e w' => e = .returned (.tuple #[.float .f64 (W s n), .int .i64 k]) ∧ w' = w := by
  have habs := B_lt false false r 4503599627370496 (by omega) (by omega)
  rw [show W false r = absN (W s r) from (abs_W s r (by omega)).symm, show W false 4503599627370496 = 4503599627370496 from rfl] at habs
  have hv : (val false r < val false 4503599627370496) ↔ r < 4503599627370496 := by
    unfold val
    simp only [Bool.false_eq_true, if_false]
    rw [Int.ofNat_lt]
    exact M_lt_iff
  by_cases hs : r < 4503599627370496
  · rw [decide_eq_true (hv.2 hs)] at habs
    obtain ⟨n, hn, hn2⟩ := rep 52 r (by omega)
    have hMr : M r = r := by
      have := M_at 0 r (Or.inr ⟨rfl, by omega⟩)
      rw [Nat.zero_mul, Nat.zero_add] at this
      rw [this]; simp
    have hnI : n < 9218868437227405312 := by omega
    have hnB : 4503599627370496 ≤ n := by
      refine Nat.le_of_not_lt fun hlt => ?_
      have hMn : M n = n := by
        have := M_at 0 n (Or.inr ⟨rfl, by omega⟩)
        rw [Nat.zero_mul, Nat.zero_add] at this
        rw [this]; simp
      rw [hMn] at hn
      have : (2 : Nat) ^ 52 = 4503599627370496 := rfl
      rw [this] at hn
      omega
    refine ⟨n, -52, hnB, hnI, Or.inr rfl, ?_, fun w => norm90s _ _ w habs ?_⟩
    · intro P hP
      have hP' : P = ex n := by unfold ex; omega
      rw [hMr, ← hn, hP']
      unfold M mant
      rw [if_neg (by omega)]
    · have hx := mul_exact s false r 4841369599423283200 n hr (by omega) (by omega) (by
        rw [hMr, M_52, hn, ← Nat.mul_assoc])
      rw [Bool.xor_false] at hx
      exact hx
  · rw [decide_eq_false (fun h => hs (hv.1 h))] at habs
    refine ⟨r, 0, by omega, hr, Or.inl rfl, ?_, fun w => norm90n _ w habs⟩
    intro P hP
    have hP' : P = ex r + 52 := by unfold ex; omega
    rw [hP', Nat.pow_add, ← Nat.mul_assoc]
    congr 1
    unfold M mant
    rw [if_neg (by omega)]

theorem frexp85 (x f z E y : Nat) (k : Int) (w : World) (h0 : zeroB x = false) (h1 : pinfB (absN x) = false) (h2 : nanB x = false)
    (hn : ∀ w, Calls Tryd.prog 81 #[.float .f64 x] w fun e w' => e = .returned (.tuple #[.float .f64 f, .int .i64 k]) ∧ w' = w) (hk : k = 0 ∨ k = -52) (hE0 : E < 2048)
    (hE : bits BinOp.and IntKind.u64 ((f : Int) / 4503599627370496) 2047 = (E : Int)) (hc : bits BinOp.andNot IntKind.u64 (f : Int) 9218868437227405312 = (y : Int)) (hp : bits BinOp.or IntKind.u64 (y : Int) 4602678819172646912 = (z : Int)) :
    Calls Tryd.prog 65 #[.float .f64 x] w fun e w' => e = .returned (.tuple #[.float .f64 z, .int .i64 (k + (E - 1023 + 1))]) ∧ w' = w := by
  unfold zeroB at h0
  have b1 := bits14
  have b2 := from13
  have HN : Hid (∀ w, Calls Tryd.prog 81 #[.float .f64 x] w fun e w' => e = .returned (.tuple #[.float .f64 f, .int .i64 k]) ∧ w' = w) := hn
  clear hn
  have hk1 : -52 ≤ k := by omega
  have hk2 : k ≤ 0 := by omega
  clear hk
  go_enter Tryd.func65, Tryd.ntmps65
  go_wp2_with (first | (go_at_call 44; refine (inf12z _ _).mono ?_; rintro e w' ⟨rfl, rfl⟩) | (go_at_call 43; refine (nan11 _ _).mono ?_; rintro e w' ⟨rfl, rfl⟩) | (go_at_call 81; refine (HN.out _).mono ?_; rintro e w' ⟨rfl, rfl⟩))
  go_ret2
  exact ⟨rfl, rfl⟩
theorem frexp69 (x z : Nat) (k : Int) (w : World) (h : ∀ w, Calls Tryd.prog 65 #[.float .f64 x] w fun e w' => e = .returned (.tuple #[.float .f64 z, .int .i64 k]) ∧ w' = w) :
    Calls Tryd.prog 45 #[.float .f64 x] w fun e w' => e = .returned (.tuple #[.float .f64 z, .int .i64 k]) ∧ w' = w := by
  have H : Hid (∀ w, Calls Tryd.prog 65 #[.float .f64 x] w fun e w' => e = .returned (.tuple #[.float .f64 z, .int .i64 k]) ∧ w' = w) := h
  clear h
  go_enter Tryd.func45, Tryd.ntmps45
  go_wp2_with (go_at_call 65; refine (H.out _).mono ?_; rintro e w' ⟨rfl, rfl⟩)
  go_ret2
  exact ⟨rfl, rfl⟩
theorem frexp85z (x : Nat) (w : World) (h0 : zeroB x = true) :
    Calls Tryd.prog 65 #[.float .f64 x] w fun e w' => e = .returned (.tuple #[.float .f64 x, .int .i64 0]) ∧ w' = w := by
  unfold zeroB at h0
  go_enter Tryd.func65, Tryd.ntmps65
  go_wp2
  go_ret2
  exact ⟨rfl, rfl⟩
theorem fin_facts (s : Bool) (r : Nat) (h0 : 0 < r) (hr : r < 9218868437227405312) : zeroB (W s r) = false ∧ pinfB (absN (W s r)) = false ∧ nanB (W s r) = false := by
  refine ⟨?_, ?_, ?_⟩
  · rw [zeroB_W s r (by omega)]; exact decide_eq_false (by omega)
  · rw [abs_W s r (by omega)]
    have := pinfB_W false r (by omega)
    rw [show W false r = r from rfl] at this
    rw [this, decide_eq_false (by omega)]; rfl
  · rw [nanB_W s r (by omega)]; exact decide_eq_false (by omega)

/-- WHAT Frexp TELLS of what is not 0: m times 2^-53, and P - 1073 -/
theorem frexp_spec (s : Bool) (r : Nat) (h0 : 0 < r) (hr : r < 9218868437227405312) :
    ∃ m P : Nat, 4503599627370496 ≤ m ∧ m < 9007199254740992 ∧ P ≤ 2097 ∧ M r * 2 ^ 52 = m * 2 ^ P ∧
      ∀ w, Calls Tryd.prog 45 #[.float .f64 (W s r)] w fun e w' => e = .returned (.tuple #[.float .f64 (W s (1021 * 4503599627370496 + m)), .int .i64 ((P : Int) - 1073)]) ∧ w' = w := by
  obtain ⟨n, k, hB, hI, hk, hM, hC⟩ := norm_spec s r h0 hr
  obtain ⟨f1, f2, f3⟩ := fin_facts s r h0 hr
  have hE : n / 4503599627370496 < 2047 := by omega
  have hE1 : 1 ≤ n / 4503599627370496 := by omega
  refine ⟨4503599627370496 + n % 4503599627370496, ((n / 4503599627370496 : Nat) - 1 + k + 52).toNat, by omega, by omega, by omega, hM _ (by omega), fun w => ?_⟩
  have hput := bit_put s (n % 4503599627370496) 1022 (by omega) (by omega)
  rw [show ((1022 * 4503599627370496 : Nat) : Int) = 4602678819172646912 from rfl, show 1022 * 4503599627370496 + n % 4503599627370496 = 1021 * 4503599627370496 + (4503599627370496 + n % 4503599627370496) from by omega] at hput
  have := frexp69 _ _ _ w (fun w => frexp85 _ _ _ _ _ k w f1 f2 f3 hC hk (by omega) (bit_exp s n (by omega)) (bit_cut s n (by omega)) hput)
  have e : k + (((n / 4503599627370496 : Nat) : Int) - 1023 + 1) = ((((n / 4503599627370496 : Nat) : Int) - 1 + k + 52).toNat : Int) - 1073 := by omega
  rw [e] at this
  exact this

theorem ldexp87i (x : Nat) (e : Int) (w : World) (h : (zeroB x || pinfB (absN x)) = true) :
    Calls Tryd.prog 67 #[.float .f64 x, .int .i64 e] w fun e w' => e = .returned (.float .f64 x) ∧ w' = w := by
  unfold zeroB at h
  cases h0 : (FloatKind.f64.format.order x 0 == some .eq)
  · rw [h0, Bool.false_or] at h
    go_enter Tryd.func67, Tryd.ntmps67
    go_wp2_with (first | (go_at_call 44; refine (inf12z _ _).mono ?_; rintro e w' ⟨rfl, rfl⟩) | (go_at_call 43; refine (nan11 _ _).mono ?_; rintro e w' ⟨rfl, rfl⟩))
    go_ret
    exact ⟨rfl, rfl⟩
  · clear h
    go_enter Tryd.func67, Tryd.ntmps67
    go_wp2_with (first | (go_at_call 44; refine (inf12z _ _).mono ?_; rintro e w' ⟨rfl, rfl⟩) | (go_at_call 43; refine (nan11 _ _).mono ?_; rintro e w' ⟨rfl, rfl⟩))
    go_ret
    exact ⟨rfl, rfl⟩
theorem ldexp87 (x f z y : Nat) (e k E S : Int) (w : World) (h0 : zeroB x = false) (h1 : pinfB (absN x) = false) (h2 : nanB x = false)
    (hn : ∀ w, Calls Tryd.prog 81 #[.float .f64 x] w fun e w' => e = .returned (.tuple #[.float .f64 f, .int .i64 k]) ∧ w' = w) (he1 : -5000 ≤ e) (he2 : e ≤ 5000) (hk1 : -52 ≤ k) (hk2 : k ≤ 0)
    (hE : bits BinOp.and IntKind.i64 (wrap64 (↑f / 4503599627370496)) 2047 = E) (hE1 : 0 ≤ E) (hE2 : E ≤ 2047) (hS : e + k + (E - 1023) = S) (hS1 : -1022 ≤ S) (hS2 : S ≤ 1023)
    (hc : bits BinOp.andNot IntKind.u64 (f : Int) 9218868437227405312 = (y : Int)) (hp : bits BinOp.or IntKind.u64 (y : Int) ((S + 1023) * 4503599627370496) = (z : Int)) (hr : double.mul 4607182418800017408 z = some z) :
    Calls Tryd.prog 67 #[.float .f64 x, .int .i64 e] w fun e w' => e = .returned (.float .f64 z) ∧ w' = w := by
  have g := mul_run w _ _ _ hr
  clear hr
  unfold zeroB at h0
  have b1 := bits14
  have b2 := from13
  have HN : Hid (∀ w, Calls Tryd.prog 81 #[.float .f64 x] w fun e w' => e = .returned (.tuple #[.float .f64 f, .int .i64 k]) ∧ w' = w) := hn
  clear hn
  subst hS
  go_enter Tryd.func67, Tryd.ntmps67
  go_wp2_with (first | (go_at_call 44; refine (inf12z _ _).mono ?_; rintro e w' ⟨rfl, rfl⟩) | (go_at_call 43; refine (nan11 _ _).mono ?_; rintro e w' ⟨rfl, rfl⟩) | (go_at_call 81; refine (HN.out _).mono ?_; rintro e w' ⟨rfl, rfl⟩))
  go_ret
  exact ⟨rfl, rfl⟩
theorem ldexp71 (x z : Nat) (e : Int) (w : World) (h : ∀ w, Calls Tryd.prog 67 #[.float .f64 x, .int .i64 e] w fun e w' => e = .returned (.float .f64 z) ∧ w' = w) :
    Calls Tryd.prog 46 #[.float .f64 x, .int .i64 e] w fun e w' => e = .returned (.float .f64 z) ∧ w' = w := by
  have H : Hid (∀ w, Calls Tryd.prog 67 #[.float .f64 x, .int .i64 e] w fun e w' => e = .returned (.float .f64 z) ∧ w' = w) := h
  clear h
  go_enter Tryd.func46, Tryd.ntmps46
  go_wp2_with (go_at_call 67; refine (H.out _).mono ?_; rintro e w' ⟨rfl, rfl⟩)
  go_ret
  exact ⟨rfl, rfl⟩
end Go.Proofs.YtaiflkpanankcaaDoor.Fl
