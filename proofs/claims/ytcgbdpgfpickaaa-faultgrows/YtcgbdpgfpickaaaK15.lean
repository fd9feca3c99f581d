import Derived.Test.YtcgbdpgfpickaaaK14
import Derived.Test.YtcgbdpgfpickaaaK05
import Derived.Test.YtcgbdpgfpickaaaK11
import Derived.Deep.QuietTactic
import Derived.BigQuiet
namespace Go.Proofs.Ytcgbdpgfpickaaa
open Go.RowKit
set_option linter.unusedVariables false

/-- is it rounded up: an odd number over 2 to the power b -/
def upB (x b : Nat) : Bool := bitB x (b - 1) && (decide (1 < b) || decide (x / 2 ^ b % 2 = 1))
/-- one limb, or none -/
theorem lim_head {w : World} {ad : Option Addr} {n cap x : Nat} (h : Lim w ad n cap 18446744073709551616 x) (h1 : x < 18446744073709551616) : (x = 0 ∧ n = 0) ∨ (0 < x ∧ n = 1 ∧ ∃ p o, ad = some ⟨p, o, none⟩ ∧ 1 ≤ cap ∧ cap ≤ 9223372036854775807 ∧ w.cell? ⟨p, o, none⟩ = some (.int .u64 (x : Int))) := by
  by_cases h0 : x = 0
  · subst h0
    obtain ⟨xs, rx, dx⟩ := h
    exact Or.inl ⟨rfl, by rw [← rx.len]; exact (dx.zero_iff (by omega)).2 rfl⟩
  · obtain rfl : n = 1 := lim_one h (by omega) h1
    obtain ⟨xs, rx, dx⟩ := h
    obtain ⟨v, rfl⟩ : ∃ v, xs = [v] := by
      have := rx.len
      match xs, this with
      | [v], _ => exact ⟨v, rfl⟩
    have hv : v = x := by have := dx.1; simpa [nv] using this
    subst hv
    obtain ⟨p1, o1, rfl, hp1, hc1⟩ := rx.cells (by omega)
    have hc0 := hc1 0 (by omega)
    exact Or.inr ⟨by omega, rfl, p1, o1, rfl, rx.le, rx.max, hc0⟩
theorem par_one {v : Nat} (h : v < 18446744073709551616) : (bits BinOp.and IntKind.u64 (v : Int) 1 == 1) = decide (v % 2 = 1) := by
  rw [and_one h]
  by_cases h : v % 2 = 1
  · rw [h]; rfl
  · rw [show v % 2 = 0 by omega]; rfl
end Go.Proofs.Ytcgbdpgfpickaaa
namespace Go.Proofs.Ytcgbdpgfpickaaa.Fl
open Go.RowKit
open Ieee
set_option linter.unusedVariables false

theorem sub_nan (s : Bool) (r : Nat) (x : Nat) (h : r < 9223372036854775808) (hn : 9218868437227405312 < r) : double.sub (W s r) x = none := by
  unfold Format.sub
  rw [read_nanW s r h hn]
  rfl
theorem toU_W (r : Nat) (hr : r < 9218868437227405312) (hs : M r / U < 18446744073709551616) :
    floatToIntVal .f64 (W false r) .u64 = some ((M r / U : Nat) : Int) := by
  unfold floatToIntVal
  have h1 : FloatKind.f64.decode (W false r) = .number false (mant r) (-1074 + (ex r : Int)) := read_fin false r hr
  rw [h1]
  unfold Datum.toInt
  rw [zero_W]
  simp only []
  rw [signed_val, Nat.pow_zero, Nat.mul_one]
  have e1 : IntKind.u64.min = 0 := rfl
  have e2 : IntKind.u64.max = 18446744073709551615 := rfl
  generalize M r / U = q at *
  rw [if_pos]
  · simp only [Bool.false_eq_true, if_false]
  · rw [e1, e2]
    simp only [Bool.false_eq_true, if_false]; omega
theorem one_row (w : World) (o1 : Obj) (v : Nat) : Row ((w.alloc o1).alloc (.cells #[.int .u64 (v : Int)] 47)) (some ⟨w.heap.size + 1, 0, none⟩) 1 1 [v] := by
  refine ⟨rfl, Nat.le_refl _, by omega, (fun h => by cases h), fun _ => ⟨w.heap.size + 1, 0, rfl, by simp, fun j hj => ?_⟩⟩
  obtain rfl : j = 0 := by omega
  have := second_block w o1 (.cells #[.int .u64 (v : Int)] 47)
  simp only [World.cell?, this, Nat.zero_add]
  rfl
theorem first_block (w : World) (o1 : Obj) : (w.alloc o1).heap[w.heap.size]? = some o1 := by show (w.heap.push _)[w.heap.size]? = _; simp
end Go.Proofs.Ytcgbdpgfpickaaa.Fl
namespace Go.Proofs.Ytcgbdpgfpickaaa.Fl
open Go.RowKit
open Ieee
set_option linter.unusedVariables false

theorem inf51p (w : World) : Calls Try.prog 17 #[.int .i64 1] w fun e w' => e = .returned (.float .f64 9218868437227405312) ∧ w' = w := by
  have b2 := from13
  go_enter Try.func17, Try.ntmps17
  go_wp2
  go_ret
  exact ⟨rfl, rfl⟩
theorem inf51m (w : World) : Calls Try.prog 17 #[.int .i64 (-1)] w fun e w' => e = .returned (.float .f64 18442240474082181120) ∧ w' = w := by
  have b2 := from13
  go_enter Try.func17, Try.ntmps17
  go_wp2
  go_ret
  exact ⟨rfl, rfl⟩
/-- Ldexp into the subnormal numbers -/
theorem ldexp87s (x f z y v : Nat) (e k E S : Int) (w : World) (h0 : zeroB x = false) (h1 : pinfB (absN x) = false) (h2 : nanB x = false)
    (hn : ∀ w, Calls Try.prog 50 #[.float .f64 x] w fun e w' => e = .returned (.tuple #[.float .f64 f, .int .i64 k]) ∧ w' = w) (he1 : -5000 ≤ e) (he2 : e ≤ 5000000) (hk1 : -52 ≤ k) (hk2 : k ≤ 0)
    (hE : bits BinOp.and IntKind.i64 (wrap64 (↑f / 4503599627370496)) 2047 = E) (hE1 : 0 ≤ E) (hE2 : E ≤ 2047) (hS : e + k + (E - 1023) = S) (hS1 : -1075 ≤ S) (hS2 : S < -1022)
    (hc : bits BinOp.andNot IntKind.u64 (f : Int) 9218868437227405312 = (y : Int)) (hp : bits BinOp.or IntKind.u64 (y : Int) ((S + 53 + 1023) * 4503599627370496) = (z : Int)) (hr : double.mul 4368491638549381120 z = some v) :
    Calls Try.prog 38 #[.float .f64 x, .int .i64 e] w fun e w' => e = .returned (.float .f64 v) ∧ w' = w := by
  have g := mul_run w _ _ _ hr
  clear hr
  unfold zeroB at h0
  have b1 := bits14
  have b2 := from13
  have HN : Hid (∀ w, Calls Try.prog 50 #[.float .f64 x] w fun e w' => e = .returned (.tuple #[.float .f64 f, .int .i64 k]) ∧ w' = w) := hn
  clear hn
  subst hS
  go_enter Try.func38, Try.ntmps38
  go_wp2_with (first | (go_at_call 41; refine (inf12z _ _).mono ?_; rintro e w' ⟨rfl, rfl⟩) | (go_at_call 35; refine (nan11 _ _).mono ?_; rintro e w' ⟨rfl, rfl⟩) | (go_at_call 50; refine (HN.out _).mono ?_; rintro e w' ⟨rfl, rfl⟩))
  go_ret
  exact ⟨rfl, rfl⟩
/-- Ldexp above all floats -/
theorem ldexp87o (x f : Nat) (e k E S : Int) (w : World) (h0 : zeroB x = false) (h1 : pinfB (absN x) = false) (h2 : nanB x = false) (hl : (FloatKind.f64.format.order f 0 == some .lt) = false)
    (hn : ∀ w, Calls Try.prog 50 #[.float .f64 x] w fun e w' => e = .returned (.tuple #[.float .f64 f, .int .i64 k]) ∧ w' = w) (he1 : -5000 ≤ e) (he2 : e ≤ 5000000) (hk1 : -52 ≤ k) (hk2 : k ≤ 0)
    (hE : bits BinOp.and IntKind.i64 (wrap64 (↑f / 4503599627370496)) 2047 = E) (hE1 : 0 ≤ E) (hE2 : E ≤ 2047) (hS : e + k + (E - 1023) = S) (hS1 : 1023 < S) :
    Calls Try.prog 38 #[.float .f64 x, .int .i64 e] w fun e w' => e = .returned (.float .f64 9218868437227405312) ∧ w' = w := by
  unfold zeroB at h0
  have b1 := bits14
  have b2 := from13
  have HN : Hid (∀ w, Calls Try.prog 50 #[.float .f64 x] w fun e w' => e = .returned (.tuple #[.float .f64 f, .int .i64 k]) ∧ w' = w) := hn
  clear hn
  subst hS
  go_enter Try.func38, Try.ntmps38
  go_wp2_with (first | (go_at_call 41; refine (inf12z _ _).mono ?_; rintro e w' ⟨rfl, rfl⟩) | (go_at_call 35; refine (nan11 _ _).mono ?_; rintro e w' ⟨rfl, rfl⟩) | (go_at_call 50; refine (HN.out _).mono ?_; rintro e w' ⟨rfl, rfl⟩) | (go_at_call 17; refine (inf51p _).mono ?_; rintro e w' ⟨rfl, rfl⟩))
  go_ret
  exact ⟨rfl, rfl⟩
end Go.Proofs.Ytcgbdpgfpickaaa.Fl
namespace Go.Proofs.Ytcgbdpgfpickaaa.Fl
open Go.RowKit
open Ieee
set_option linter.unusedVariables false

theorem E21_eq : E21 = 1021 := rfl
theorem M_53 : M 4368491638549381120 = 2 ^ E21 := by
  have h := M_at (E21 - 52) 4503599627370496 (Or.inl ⟨by omega, by omega⟩)
  have e : (E21 - 52) * 4503599627370496 + 4503599627370496 = 4368491638549381120 := rfl
  rw [e] at h
  rw [h]
  have e2 : E21 = 52 + (E21 - 52) := rfl
  conv => rhs; rw [e2, Nat.pow_add]
theorem U_form : ∃ A : Nat, A = 1074 ∧ U = 2 ^ A := ⟨E74, E74_eq, by unfold U; rfl⟩
theorem M53_form : ∃ A1 : Nat, A1 = 1021 ∧ M 4368491638549381120 = 2 ^ A1 := ⟨E21, E21_eq, M_53⟩
theorem put_n {P Q : Nat} {last : Int} (hQ : (Q : Int) = last + P - 52) : (((Q + 1) * 4503599627370496 : Nat) : Int) = (((P : Int) + last - 1074) + 1023) * 4503599627370496 := by
  rw [Int.natCast_mul]
  congr 1
  omega
theorem put_s {P j : Nat} {last : Int} (hj : (j : Int) = 52 - (last + P)) (h : j ≤ 52) : (((54 - j) * 4503599627370496 : Nat) : Int) = (((P : Int) + last - 1074) + 53 + 1023) * 4503599627370496 := by
  rw [Int.natCast_mul]
  congr 1
  omega
theorem one_mul_exact (z : Nat) (hz : z < 9218868437227405312) : double.mul (W false 4607182418800017408) (W false z) = some (W (false ^^ false) z) :=
  mul_exact false false 4607182418800017408 _ _ (by omega) hz (Nat.le_of_lt hz) (by rw [M_1, Nat.mul_comm])
theorem small_fin : 4368491638549381120 < 9218868437227405312 := by omega
theorem put_e {Q n m : Nat} (hm : m = 4503599627370496 + n % 4503599627370496) : (Q + 1) * 4503599627370496 + n % 4503599627370496 = Q * 4503599627370496 + m := by
  rw [Nat.succ_mul]; omega
theorem sub_one {j : Nat} (h : j ≤ 52) : 54 - j = (53 - j) + 1 := by omega
theorem pow_cancel {a b k : Nat} (h : a * 2 ^ k = b * 2 ^ k) : a = b := Nat.eq_of_mul_eq_mul_right (Nat.two_pow_pos k) h
theorem pow_le_iff {a b : Nat} (h : 2 ^ a ≤ 2 ^ b) : a ≤ b := (Nat.pow_le_pow_iff_right (by omega)).1 h
/-- WHAT Ldexp TELLS of a whole number of at most 53 bits: the rung of it times that power, or the infinity -/
theorem ldexpN (r0 N R t : Nat) (last : Int) (hN0 : 0 < N) (hr0 : r0 < 9218868437227405312) (h0 : M r0 = N * U) (ht : (t : Int) = last + 1074) (hl : last ≤ 4000000) (hR : M R = N * 2 ^ t) (w : World) :
    Calls Try.prog 22 #[.float .f64 (W false r0), .int .i64 last] w fun e w' => e = .returned (.float .f64 (min R 9218868437227405312)) ∧ w' = w := by
  obtain ⟨A, hA, hU⟩ : ∃ A : Nat, A = 1074 ∧ U = 2 ^ A := U_form
  obtain ⟨A1, hA1, hM53⟩ : ∃ A1 : Nat, A1 = 1021 ∧ M 4368491638549381120 = 2 ^ A1 := M53_form
  have hMinf : M 9218868437227405312 = 4503599627370496 * 2 ^ (A + 972) := by
    have := M_at (A + 972) 4503599627370496 (Or.inl ⟨by omega, by omega⟩)
    rw [show (A + 972) * 4503599627370496 + 4503599627370496 = 9218868437227405312 by omega] at this
    exact this
  have r00 : 0 < r0 := by
    refine Nat.pos_of_ne_zero fun h => ?_
    subst h
    rw [M_zero] at h0
    have := Nat.mul_pos hN0 U_pos
    omega
  obtain ⟨n, k, hB, hI, hk, hM, hC⟩ := norm_spec false r0 r00 hr0
  obtain ⟨f1, f2, f3⟩ := fin_facts false r0 r00 hr0
  have hE : n / 4503599627370496 < 2047 := by omega
  have hE1 : 1 ≤ n / 4503599627370496 := by omega
  obtain ⟨P, hP⟩ : ∃ P : Nat, (P : Int) = (n / 4503599627370496 : Nat) - 1 + k + 52 := ⟨((n / 4503599627370496 : Nat) - 1 + k + 52).toNat, by omega⟩
  have hM1 := hM P hP
  obtain ⟨m, hm⟩ : ∃ m, m = 4503599627370496 + n % 4503599627370496 := ⟨_, rfl⟩
  rw [← hm] at hM1
  have hm1 : 4503599627370496 ≤ m := by omega
  have hm2 : m < 9007199254740992 := by omega
  -- M R, by m
  have key : M R * 2 ^ (A + 52) = m * 2 ^ (P + t) := by
    rw [hR, Nat.pow_add 2 P, ← Nat.mul_assoc, ← hM1, h0, hU, Nat.pow_add]
    generalize 2 ^ A = a
    generalize 2 ^ t = b
    generalize (2 : Nat) ^ 52 = c
    ac_rfl
  have hS : last + k + (((n / 4503599627370496 : Nat) : Int) - 1023) = (P : Int) + last - 1074 := by omega
  by_cases c1 : 1023 < (P : Int) + last - 1074
  · -- above all floats
    have hR2 : 9218868437227405312 ≤ R := by
      refine Nat.le_of_not_lt fun hlt => ?_
      have h1 := M_lt hlt
      rw [hMinf] at h1
      have h3 : M R * 2 ^ (A + 52) < 4503599627370496 * 2 ^ (A + 972) * 2 ^ (A + 52) := Nat.mul_lt_mul_of_pos_right h1 (Nat.two_pow_pos _)
      rw [key, Nat.mul_assoc, ← Nat.pow_add] at h3
      have h4 : 4503599627370496 * 2 ^ (A + 972 + (A + 52)) ≤ m * 2 ^ (P + t) := Nat.mul_le_mul hm1 (Nat.pow_le_pow_right (by omega) (by omega))
      omega
    rw [Nat.min_eq_right hR2]
    have hl0 : (FloatKind.f64.format.order (W false n) 0 == some .lt) = false := by
      have := B_lt false false n 0 (by omega) (by omega)
      rw [show W false 0 = 0 from rfl] at this
      rw [this, val_zero]
      exact decide_eq_false (by unfold val; simp only [Bool.false_eq_true, if_false]; omega)
    exact ldexp71 _ _ last w (fun w => ldexp87o _ _ last k _ _ w f1 f2 f3 hl0 hC (by omega) (by omega) (by omega) (by omega) (i64_exp false n (by omega)) (by omega) (by omega) hS c1)
  · by_cases c2 : -1022 ≤ (P : Int) + last - 1074
    · -- a normal number
      obtain ⟨Q, hQ⟩ : ∃ Q : Nat, (Q : Int) = last + P - 52 := ⟨(last + P - 52).toNat, by omega⟩
      have hMR : M R = m * 2 ^ Q := by
        refine pow_cancel (k := A + 52) ?_
        rw [key, Nat.mul_assoc, ← Nat.pow_add]
        rw [show P + t = Q + (A + 52) by omega]
      have hz : Q * 4503599627370496 + m < 9218868437227405312 := by omega
      have hRz : R = Q * 4503599627370496 + m := M_inj (hMR.trans (M_at Q m (Or.inl ⟨hm1, by omega⟩)).symm)
      rw [Nat.min_eq_left (by omega), hRz]
      have hput := bit_put false (n % 4503599627370496) (Q + 1) (by omega) (by omega)
      have e1 : (((Q + 1) * 4503599627370496 : Nat) : Int) = (((P : Int) + last - 1074) + 1023) * 4503599627370496 := put_n hQ
      have e2 : (Q + 1) * 4503599627370496 + n % 4503599627370496 = Q * 4503599627370496 + m := put_e hm
      rw [e1, e2] at hput
      have hone := one_mul_exact _ hz
      rw [show W false 4607182418800017408 = 4607182418800017408 from rfl, Bool.false_xor] at hone
      exact ldexp71 _ _ last w (fun w => ldexp87 _ _ _ _ last k _ _ w f1 f2 f3 hC (by omega) (by omega) (by omega) (by omega) (i64_exp false n (by omega)) (by omega) (by omega) hS c2 (by omega) (bit_cut false n (by omega)) hput hone)
    · -- a subnormal number
      obtain ⟨j, hj⟩ : ∃ j : Nat, (j : Int) = 52 - (last + P) := ⟨(52 - (last + P)).toNat, by omega⟩
      have hMj : M R * 2 ^ j = m := by
        refine pow_cancel (k := P + t) ?_
        rw [← key, Nat.mul_assoc, ← Nat.pow_add]
        rw [show A + 52 = j + (P + t) by omega]
      have hR0 : 0 < M R := by
        refine Nat.pos_of_ne_zero fun h => ?_
        rw [h, Nat.zero_mul] at hMj
        omega
      have hj52 : j ≤ 52 := by
        refine Nat.le_of_not_lt fun hlt => ?_
        have h1 : 1 * 2 ^ 53 ≤ M R * 2 ^ j := Nat.mul_le_mul hR0 (Nat.pow_le_pow_right (by omega) (by omega))
        rw [hMj] at h1
        omega
      have hRlt : R < 4503599627370496 := by
        refine Nat.lt_of_not_le fun hle => ?_
        have h1 := M_le hle
        have h2 : M 4503599627370496 = 4503599627370496 := by
          have := M_at 0 4503599627370496 (Or.inr ⟨rfl, by omega⟩)
          rw [Nat.zero_mul, Nat.zero_add] at this
          rw [this]
        rw [h2] at h1
        have h3 : 4503599627370496 * 2 ^ 1 ≤ M R * 2 ^ j := Nat.mul_le_mul h1 (Nat.pow_le_pow_right (by omega) (by omega))
        rw [hMj] at h3
        omega
      rw [Nat.min_eq_left (by omega)]
      have hput := bit_put false (n % 4503599627370496) (54 - j) (by omega) (by omega)
      have e1 : (((54 - j) * 4503599627370496 : Nat) : Int) = (((P : Int) + last - 1074) + 53 + 1023) * 4503599627370496 := put_s hj hj52
      have e2 : (54 - j) * 4503599627370496 + n % 4503599627370496 = (53 - j) * 4503599627370496 + m := by
        rw [show 54 - j = (53 - j) + 1 from sub_one hj52]
        exact put_e hm
      rw [e1, e2] at hput
      have hz : (53 - j) * 4503599627370496 + m < 9218868437227405312 := by omega
      have hMz : M ((53 - j) * 4503599627370496 + m) = m * 2 ^ (53 - j) := M_at (53 - j) m (Or.inl ⟨hm1, by omega⟩)
      have hprod := mul_exact false false 4368491638549381120 ((53 - j) * 4503599627370496 + m) R small_fin hz (Nat.le_of_lt (Nat.lt_trans hRlt (by decide))) (by
        rw [hM53, hMz, ← hMj, hU, show A = A1 + j + (53 - j) by omega, Nat.pow_add, Nat.pow_add]
        generalize 2 ^ A1 = a
        generalize 2 ^ j = b
        generalize 2 ^ (53 - j) = c
        ac_rfl)
      rw [show W false 4368491638549381120 = 4368491638549381120 from rfl, Bool.false_xor] at hprod
      exact ldexp71 _ _ last w (fun w => ldexp87s _ _ _ _ _ last k _ _ w f1 f2 f3 hC (by omega) (by omega) (by omega) (by omega) (i64_exp false n (by omega)) (by omega) (by omega) hS (by omega) (by omega) (bit_cut false n (by omega)) hput hprod)
end Go.Proofs.Ytcgbdpgfpickaaa.Fl
namespace Go.Proofs.Ytcgbdpgfpickaaa.Fl
open Go.RowKit
open Ieee
set_option linter.unusedVariables false

/-- 8 k u 2^k, 16 (k + 1) u 2^k, the roots of 2^k upward: rungs -/
def uA : List Nat := [0, 4386506037058863104, 4395513236313604096, 4402268635754659840, 4409024035195715584, 4414653534729928704, 4420283034264141824, 4425912533798354944, 4431542033332568064, 4436608582913359872, 4441675132494151680, 4446741682074943488, 4451808231655735296, 4456874781236527104, 4461941330817318912]
def uB : List Nat := [4386506037058863104, 4395513236313604096, 4402268635754659840, 4409024035195715584, 4414653534729928704, 4420283034264141824, 4425912533798354944, 4431542033332568064, 4436608582913359872, 4441675132494151680, 4446741682074943488, 4451808231655735296, 4456874781236527104, 4461941330817318912, 4467007880398110720]
def sqT : List Nat := [4607182418800017408, 4609047870845172685, 4611686018427387904, 4613551470472543181, 4616189618054758400, 4618055070099913677, 4620693217682128896, 4622558669727284173, 4625196817309499392, 4627062269354654669, 4629700416936869888, 4631565868982025165, 4634204016564240384, 4636069468609395661, 4638707616191610880]
def p2T : List Nat := [4607182418800017408, 4611686018427387904, 4616189618054758400, 4620693217682128896, 4625196817309499392, 4629700416936869888, 4634204016564240384, 4638707616191610880, 4643211215818981376, 4647714815446351872, 4652218415073722368, 4656722014701092864, 4661225614328463360, 4665729213955833856, 4670232813583204352]
theorem uA_all : (List.range 15).all (fun k => decide (M (uA.getD k 0) = 8 * k * 2 ^ (k + 1021)) && decide (uA.getD k 0 ≤ 4472074429978902528)) = true := by decide +kernel
theorem uB_all : (List.range 15).all (fun k => decide (M (uB.getD k 0) = 16 * (k + 1) * 2 ^ (k + 1021)) && decide (uB.getD k 0 ≤ 4467570830351532032)) = true := by decide +kernel
theorem p2_all : (List.range 15).all (fun k => decide (M (p2T.getD k 0) = 1 * 2 ^ (k + 1074)) && decide (p2T.getD k 0 < 9218868437227405312) && decide (0 < p2T.getD k 0)) = true := by decide +kernel
theorem sq_all : (List.range 15).all (fun k => decide (M (p2T.getD k 0) * U ≤ M (sqT.getD k 0) * M (sqT.getD k 0)) && decide (M (sqT.getD k 0 - 1) * M (sqT.getD k 0 - 1) < M (p2T.getD k 0) * U) && decide (sqT.getD k 0 ≤ 4638707616191610880)) = true := by decide +kernel
theorem uA_at (k : Nat) (h : k ≤ 14) : M (uA.getD k 0) = 8 * k * 2 ^ (k + 1021) ∧ uA.getD k 0 ≤ 4472074429978902528 := by
  have := List.all_eq_true.1 uA_all k (List.mem_range.2 (by omega))
  simpa using this
theorem uB_at (k : Nat) (h : k ≤ 14) : M (uB.getD k 0) = 16 * (k + 1) * 2 ^ (k + 1021) ∧ uB.getD k 0 ≤ 4467570830351532032 := by
  have := List.all_eq_true.1 uB_all k (List.mem_range.2 (by omega))
  simpa using this
theorem p2_at (k : Nat) (h : k ≤ 14) : M (p2T.getD k 0) = 1 * 2 ^ (k + 1074) ∧ p2T.getD k 0 < 9218868437227405312 ∧ 0 < p2T.getD k 0 := by
  have := List.all_eq_true.1 p2_all k (List.mem_range.2 (by omega))
  simpa [and_assoc] using this
theorem sq_at (k : Nat) (h : k ≤ 14) : M (p2T.getD k 0) * U ≤ M (sqT.getD k 0) * M (sqT.getD k 0) ∧ M (sqT.getD k 0 - 1) * M (sqT.getD k 0 - 1) < M (p2T.getD k 0) * U ∧ sqT.getD k 0 ≤ 4638707616191610880 := by
  have := List.all_eq_true.1 sq_all k (List.mem_range.2 (by omega))
  simpa [and_assoc] using this
theorem M_inj0 {R : Nat} (h : M R = 0) : R = 0 := Nat.eq_zero_of_not_pos fun hp => by have := M_pos hp; omega
theorem units26 (n k R : Nat) (w : World) (hn : n ≤ 1000) (hk : k ≤ 14) (hR : M R = n * 2 ^ (k + 1021)) (hf : R < 9218868437227405312) :
    Calls Try.prog 26 #[.int .i64 (n : Int), .int .i64 (k : Int)] w fun e w' => e = .returned (.float .f64 R) ∧ w' = w := by
  obtain ⟨A, hA⟩ : ∃ A : Nat, A = k + 1021 := ⟨_, rfl⟩
  rw [← hA] at hR
  have hF : floatOfInt .f64 (n : Int) = W false (ofN n) := by rw [floatOfInt_W _ (by omega)]; rw [decide_eq_false (by omega)]; rfl
  have HL : Hid (∀ w, Calls Try.prog 22 #[.float .f64 (floatOfInt .f64 (n : Int)), .int .i64 (-53 + (k : Int))] w fun e w' => e = .returned (.float .f64 R) ∧ w' = w) := fun w => by
    rw [hF]
    by_cases h0 : n = 0
    · subst h0
      rw [Nat.zero_mul] at hR
      rw [M_inj0 hR]
      exact ldexp_same _ _ w (by decide +kernel)
    · obtain ⟨q1, q2, _⟩ := ofN_spec n (by omega)
      have := ldexpN (ofN n) n R A (-53 + (k : Int)) (by omega) q2 q1 (by omega) (by omega) hR w
      rw [Nat.min_eq_left (by omega)] at this
      exact this
  clear hF hR
  go_enter Try.func26, Try.ntmps26
  go_wp2_with (go_at_call 22; with_reducible refine (HL.out _).mono ?_; rintro e w' ⟨rfl, rfl⟩)
  go_ret
  exact ⟨rfl, rfl⟩
theorem sqrt_k (k : Nat) (hk : k ≤ 14) (w : World) : Calls Try.prog 31 #[.float .f64 (p2T.getD k 0), .bool true] w fun e w' => e = .returned (.float .f64 (sqT.getD k 0)) ∧ w' = w := by
  obtain ⟨a1, a2, a3⟩ := p2_at k hk
  obtain ⟨s1, s2, s3⟩ := sq_at k hk
  obtain ⟨r, h1, h2⟩ := sqrt_sem (p2T.getD k 0) true a2 a3
  have hD : Dir true (rootN (M (p2T.getD k 0) * U)) 2 (sqT.getD k 0) := by
    refine ⟨by omega, fun _ => Nat.le_of_not_lt fun hlt => ?_, fun _ => ?_⟩
    · rw [root_lt_iff] at hlt
      omega
    · rw [root_lt_iff]
      exact s2
  have he : r = sqT.getD k 0 := dir_unique (by omega) h1 hD
  have := h2 w
  rw [he] at this
  exact this
theorem ldexp_k (k : Nat) (hk : k ≤ 14) (w : World) : Calls Try.prog 22 #[.float .f64 4607182418800017408, .int .i64 (k : Int)] w fun e w' => e = .returned (.float .f64 (p2T.getD k 0)) ∧ w' = w := by
  obtain ⟨a1, a2, a3⟩ := p2_at k hk
  obtain ⟨A, hA⟩ : ∃ A : Nat, A = k + 1074 := ⟨_, rfl⟩
  rw [← hA] at a1
  have := ldexpN 4607182418800017408 1 (p2T.getD k 0) A (k : Int) (by omega) (by omega) (by rw [M_1, Nat.one_mul]) (by omega) (by omega) a1 w
  rw [Nat.min_eq_left (by omega)] at this
  exact this
theorem ldexp_u (w : World) : Calls Try.prog 22 #[.float .f64 4607182418800017408, .int .i64 (-53)] w fun e w' => e = .returned (.float .f64 4368491638549381120) ∧ w' = w := by
  obtain ⟨A, hA, hM⟩ := M53_form
  have := ldexpN 4607182418800017408 1 4368491638549381120 A (-53) (by omega) (by omega) (by rw [M_1, Nat.one_mul]) (by omega) (by omega) (by rw [Nat.one_mul]; exact hM) w
  rw [Nat.min_eq_left (by omega)] at this
  exact this
theorem rootsA (o : Int) (w : World) (h : ¬ (0 ≤ o ∧ o ≤ 14)) : Calls Try.prog 6 #[.int .i64 o] w fun e w' => e = .returned (.tuple #[.float .f64 0, .int .i64 2]) ∧ w' = w := by
  go_enter Try.func6, Try.ntmps6
  go_wp2_with (go_at_call 21; with_reducible refine (refusalA _ _ _ _ _ h).mono ?_; rintro e w' ⟨rfl, rfl⟩)
  go_ret2
  exact ⟨rfl, rfl⟩
theorem rootsD (o : Int) (w : World) (h : 0 ≤ o ∧ o ≤ 14) : Calls Try.prog 6 #[.int .i64 o] w fun e w' => e = .returned (.tuple #[.float .f64 4368491638549381120, .int .i64 0]) ∧ w' = w := by
  have HR : Hid (∀ w, Calls Try.prog 21 #[.int .i64 o, .slice none 0 0] w fun e w' => e = .returned (.int .i64 0) ∧ w' = w) := fun w => refusalD o none 0 0 (fun _ => 0) w h (by omega) (fun h => absurd h (by omega)) (fun j hj => absurd hj (by omega)) (fun j hj => absurd hj (by omega))
  go_enter Try.func6, Try.ntmps6
  go_wp2_with (first | (go_at_call 21; with_reducible refine (HR.out _).mono ?_; rintro e w' ⟨rfl, rfl⟩) | (go_at_call 22; with_reducible refine (ldexp_u _).mono ?_; rintro e w' ⟨rfl, rfl⟩))
  go_ret2
  exact ⟨rfl, rfl⟩
end Go.Proofs.Ytcgbdpgfpickaaa.Fl
namespace Go.Proofs.Ytcgbdpgfpickaaa.Fl
open Go.RowKit
open Ieee
set_option linter.unusedVariables false

theorem blkU (w : World) (o : Obj) : (w.alloc o).heap[w.heap.size]? = some o := by show (w.heap.push _)[w.heap.size]? = _; simp
theorem fs1 (w : World) (x : Nat) (T : TypeId) : Fs (w.alloc (.cells #[.float .f64 x] T)) (some ⟨w.heap.size, 0, none⟩) 1 (fun _ => x) := fun _ => ⟨_, rfl, fun j hj => by
  obtain rfl : j = 0 := by omega
  unfold World.cell?; rw [blkU]; rfl⟩
theorem fs2 (w : World) (x y : Nat) (T : TypeId) : Fs (w.alloc (.cells #[.float .f64 x, .float .f64 y] T)) (some ⟨w.heap.size, 0, none⟩) 2 (fun j => if j = 0 then x else y) := fun _ => ⟨_, rfl, fun j hj => by
  rcases (show j = 0 ∨ j = 1 by omega) with rfl | rfl <;> (unfold World.cell?; rw [blkU]; rfl)⟩
theorem fs3 (w : World) (x y z : Nat) (T : TypeId) : Fs (w.alloc (.cells #[.float .f64 x, .float .f64 y, .float .f64 z] T)) (some ⟨w.heap.size, 0, none⟩) 3 (fun j => if j = 0 then x else if j = 1 then y else z) := fun _ => ⟨_, rfl, fun j hj => by
  rcases (show j = 0 ∨ j = 1 ∨ j = 2 by omega) with rfl | rfl | rfl <;> (unfold World.cell?; rw [blkU]; rfl)⟩
theorem turnE (o : Int) (x : Nat) (c : Int) (w : World) (hc : (c != 0) = true) (HR : Hid (∀ (w : World) ad, Fs w ad 1 (fun _ => x) → Calls Try.prog 21 #[.int .i64 o, .slice ad 1 1] w fun e w' => e = .returned (.int .i64 c) ∧ w' = w)) :
    Calls Try.prog 9 #[.int .i64 o, .float .f64 x] w fun e w' => e = .returned (.tuple #[.float .f64 0, .int .i64 c]) ∧ Gr w w' := by
  go_enter Try.func9, Try.ntmps9
  go_wp2_with (go_at_call 21; with_reducible refine (HR.out _ _ (fs1 _ _ _)).mono ?_; rintro e w' ⟨rfl, rfl⟩)
  go_ret2
  exact ⟨rfl, (Gr.refl w).alloc _⟩
theorem turnD (k : Nat) (x : Nat) (P : Nat → Prop) (u : Nat) (w : World) (hk : k ≤ 14) (HR : Hid (∀ (w : World) ad, Fs w ad 1 (fun _ => x) → Calls Try.prog 21 #[.int .i64 (k : Int), .slice ad 1 1] w fun e w' => e = .returned (.int .i64 0) ∧ w' = w))
    (HU : Hid (∀ (w : World), Calls Try.prog 26 #[.int .i64 (8 * (k : Int)), .int .i64 (k : Int)] w fun e w' => e = .returned (.float .f64 u) ∧ w' = w))
    (HB : Hid (∀ (w : World) ad, Fs w ad 1 (fun _ => x) → Calls Try.prog 25 #[.float .f64 u, .slice ad 1 1] w fun e w' => (∃ r2, P r2 ∧ e = .returned (.tuple #[.float .f64 r2, .int .i64 0])) ∧ w' = w)) :
    Calls Try.prog 9 #[.int .i64 (k : Int), .float .f64 x] w fun e w' => (∃ r2, P r2 ∧ e = .returned (.tuple #[.float .f64 r2, .int .i64 0])) ∧ Gr w w' := by
  have F2 : Fs ((w.alloc (.cells #[.float .f64 x] 22)).alloc (.cells #[.float .f64 x] 22)) (some ⟨w.heap.size + 1, 0, none⟩) 1 (fun _ => x) := by
    have := fs1 (w.alloc (.cells #[.float .f64 x] 22)) x 22
    rw [show (w.alloc (.cells #[.float .f64 x] 22)).heap.size = w.heap.size + 1 by simp] at this
    exact this
  go_enter Try.func9, Try.ntmps9
  go_wp2_with (first | (go_at_call 21; with_reducible refine (HR.out _ _ (fs1 _ _ _)).mono ?_; rintro e w' ⟨rfl, rfl⟩) | (go_at_call 26; with_reducible refine (HU.out _).mono ?_; rintro e w' ⟨rfl, rfl⟩) | (go_at_call 25; with_reducible refine (HB.out _ _ F2).mono ?_; rintro e w' ⟨⟨r2, hp, rfl⟩, rfl⟩))
  go_ret2
  exact ⟨⟨_, hp, rfl⟩, ((Gr.refl w).alloc _).alloc _⟩
end Go.Proofs.Ytcgbdpgfpickaaa.Fl
