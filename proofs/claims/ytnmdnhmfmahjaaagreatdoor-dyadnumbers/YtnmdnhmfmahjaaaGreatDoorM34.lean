import Derived.Test.YtnmdnhmfmahjaaaGreatDoorM33
import Derived.Test.YtnmdnhmfmahjaaaGreatDoorM31
namespace Go.Proofs.YtnmdnhmfmahjaaaGreatDoor.Fl
open Go.RowKit
open Ieee
set_option linter.unusedVariables false

theorem sub_run (w : World) (x y r : Nat) (h : double.sub x y = some r) : (binOp .sub 27 (.float .f64 x) (.float .f64 y)).run Tryz.prog w = .ok (.float .f64 r) w :=
  run_float_arith (P := Tryz.prog) w .sub 27 .f64 x y r h
theorem nan_chosen (s k : Nat) (hk : k < 4503599627370495) (hs : s < 2) : nanB (s * 2 ^ 63 + 0x7ff0000000000000 + 1 + k) = true := by
  have e : s * 2 ^ 63 + 0x7ff0000000000000 + 1 + k = W (s == 1) (0x7ff0000000000000 + 1 + k) := by
    have : s = 0 ∨ s = 1 := by omega
    rcases this with rfl | rfl
    · show 0 * 2 ^ 63 + 0x7ff0000000000000 + 1 + k = 0x7ff0000000000000 + 1 + k
      omega
    · show 1 * 2 ^ 63 + 0x7ff0000000000000 + 1 + k = 9223372036854775808 + (0x7ff0000000000000 + 1 + k)
      omega
  rw [e, nanB_W _ _ (by omega)]
  exact decide_eq_true (by omega)
theorem run_float_nan (op : BinOp) (hop : op = .add ∨ op = .sub ∨ op = .mul ∨ op = .quo) (t : TypeId) (x y : Nat) (w : World) (h : floatBits op .f64 x y = none) :
    ∃ r, (binOp op t (.float .f64 x) (.float .f64 y)).run Tryz.prog w = .ok (.float .f64 r) w.drew ∧ nanB r = true := by
  refine ⟨Question.cut (.nanBits .f64 x y) (w.tape w.drawn (.nanBits .f64 x y)), ?_, ?_⟩
  · rcases hop with rfl | rfl | rfl | rfl <;> (unfold floatBits at h; simp only at h; simp [binOp, Op.floatArith, h])
    all_goals exact fun hf => Bool.noConfusion (show false = true from hf)
  · exact nan_chosen _ _ (by omega) (by omega)
theorem nan_order (r y : Nat) (h : nanB r = true) : (FloatKind.f64.format.order r y == some .eq) = false := by
  unfold nanB at h
  rw [f64_format] at *
  unfold Format.order at *
  cases hr : double.read r with
  | nan n f => rfl
  | infinity s => rw [hr] at h; simp [Datum.order] at h
  | number s m i => rw [hr] at h; simp [Datum.order] at h
theorem sub_nan (s : Bool) (r : Nat) (x : Nat) (h : r < 9223372036854775808) (hn : 9218868437227405312 < r) : double.sub (W s r) x = none := by
  unfold Format.sub
  rw [read_nanW s r h hn]
  rfl
theorem toU_W (r : Nat) (hr : r < 9218868437227405312) (hs : M r / U < 18446744073709551616) :
    floatToIntVal .f64 (W false r) .u64 = some ((M r / U : Nat) : Int) := by
  unfold floatToIntVal
  have h1 : FloatKind.f64.decode (W false r) = .number false (mant r) (-1074 + (ex r : Int)) := read_fin false r hr
  rw [h1]
  unfold Datum.toInt
  rw [zero_W]
  simp only []
  rw [signed_val, Nat.pow_zero, Nat.mul_one]
  have e1 : IntKind.u64.min = 0 := rfl
  have e2 : IntKind.u64.max = 18446744073709551615 := rfl
  generalize M r / U = q at *
  rw [if_pos]
  · simp only [Bool.false_eq_true, if_false]
  · rw [e1, e2]
    simp only [Bool.false_eq_true, if_false]; omega
theorem one_row (w : World) (o1 : Obj) (v : Nat) : Row ((w.alloc o1).alloc (.cells #[.int .u64 (v : Int)] 41)) (some ⟨w.heap.size + 1, 0, none⟩) 1 1 [v] := by
  refine ⟨rfl, Nat.le_refl _, by omega, (fun h => by cases h), fun _ => ⟨w.heap.size + 1, 0, rfl, by simp, fun j hj => ?_⟩⟩
  obtain rfl : j = 0 := by omega
  have := second_block w o1 (.cells #[.int .u64 (v : Int)] 41)
  simp only [World.cell?, this, Nat.zero_add]
  rfl
theorem first_block (w : World) (o1 : Obj) : (w.alloc o1).heap[w.heap.size]? = some o1 := by show (w.heap.push _)[w.heap.size]? = _; simp
/-- settle, of one limb -/
theorem settle1 (s : Bool) (v : Nat) (e : Int) (w : World) (o1 : Obj) (hv : v < 18446744073709551616) (hT : TabAt 1 Lib.deBruijn64tab w) (e1 : -1000000000000 ≤ e) (e2 : e ≤ 1000000000000) :
    Hid (Calls Tryz.prog 38 #[.agg #[.bool s, .slice (some ⟨w.heap.size + 1, 0, none⟩) 1 1, .int .i64 e]] ((w.alloc o1).alloc (.cells #[.int .u64 (v : Int)] 41)) fun r w' => ∃ a b c d f' g', r = .returned (.tuple #[.agg #[.bool a, .slice b c d, .int .i64 f'], .int .i64 g']) ∧ Hid (Settled w' r s v e) ∧ Gr ((w.alloc o1).alloc (.cells #[.int .u64 (v : Int)] 41)) w') := by
  have := settle35 s (some ⟨w.heap.size + 1, 0, none⟩) 1 1 v e [v] _ (one_row w o1 v) (by simpa using hv) (by simp [nv]) (by omega) (tab_gr hT (gr2 _ _)) e1 e2
  refine Calls.mono this ?_
  rintro r w' ⟨h1, h2⟩
  obtain ⟨a, b, c, d, f, g', hr⟩ := h1.form
  exact ⟨a, b, c, d, f, g', hr, h1, h2⟩
/-- Of, of what is no number -/
theorem of4n (x : Nat) (w : World) (h : (nanB x || pinfB (absN x)) = true) :
    Calls Tryz.prog 16 #[.float .f64 x] w fun r w' => r = .returned (.tuple #[zeroD, .int .i64 5]) ∧ Gr w w' := by
  obtain ⟨t0, t1, t2, u0, u1, u2⟩ := Out3.of (first_block w (.cells #[.bool false, .slice none 0 0, .int .i64 0] 24))
  cases h1 : nanB x
  · rw [h1, Bool.false_or] at h
    go_enter Tryz.func16, Tryz.ntmps16
    go_wp2_with (first | (go_at_call 55; refine (nan11 _ _).mono ?_; rintro e w' ⟨rfl, rfl⟩) | (go_at_call 31; refine (inf12z _ _).mono ?_; rintro e w' ⟨rfl, rfl⟩))
    refine bodyPost_ret (v := .tuple #[zeroD, .int .i64 5]) ?_ rfl ⟨rfl, (Gr.refl w).alloc _⟩
    simp [results, Tryz.results16, go_sem, zeroD]
  · clear h
    go_enter Tryz.func16, Tryz.ntmps16
    go_wp2_with (first | (go_at_call 55; refine (nan11 _ _).mono ?_; rintro e w' ⟨rfl, rfl⟩) | (go_at_call 31; refine (inf12z _ _).mono ?_; rintro e w' ⟨rfl, rfl⟩))
    refine bodyPost_ret (v := .tuple #[zeroD, .int .i64 5]) ?_ rfl ⟨rfl, (Gr.refl w).alloc _⟩
    simp [results, Tryz.results16, go_sem, zeroD]
end Go.Proofs.YtnmdnhmfmahjaaaGreatDoor.Fl
namespace Go.Proofs.YtnmdnhmfmahjaaaGreatDoor.Fl
open Go.RowKit
open Ieee
set_option linter.unusedVariables false

theorem inf51p (w : World) : Calls Tryz.prog 18 #[.int .i64 1] w fun e w' => e = .returned (.float .f64 9218868437227405312) ∧ w' = w := by
  have b2 := from13
  go_enter Tryz.func18, Tryz.ntmps18
  go_wp2
  go_ret
  exact ⟨rfl, rfl⟩
theorem inf51m (w : World) : Calls Tryz.prog 18 #[.int .i64 (-1)] w fun e w' => e = .returned (.float .f64 18442240474082181120) ∧ w' = w := by
  have b2 := from13
  go_enter Tryz.func18, Tryz.ntmps18
  go_wp2
  go_ret
  exact ⟨rfl, rfl⟩
/-- Ldexp into the subnormal numbers -/
theorem ldexp87s (x f z y v : Nat) (e k E S : Int) (w : World) (h0 : zeroB x = false) (h1 : pinfB (absN x) = false) (h2 : nanB x = false)
    (hn : ∀ w, Calls Tryz.prog 99 #[.float .f64 x] w fun e w' => e = .returned (.tuple #[.float .f64 f, .int .i64 k]) ∧ w' = w) (he1 : -5000 ≤ e) (he2 : e ≤ 5000000) (hk1 : -52 ≤ k) (hk2 : k ≤ 0)
    (hE : bits BinOp.and IntKind.i64 (wrap64 (↑f / 4503599627370496)) 2047 = E) (hE1 : 0 ≤ E) (hE2 : E ≤ 2047) (hS : e + k + (E - 1023) = S) (hS1 : -1075 ≤ S) (hS2 : S < -1022)
    (hc : bits BinOp.andNot IntKind.u64 (f : Int) 9218868437227405312 = (y : Int)) (hp : bits BinOp.or IntKind.u64 (y : Int) ((S + 53 + 1023) * 4503599627370496) = (z : Int)) (hr : double.mul 4368491638549381120 z = some v) :
    Calls Tryz.prog 69 #[.float .f64 x, .int .i64 e] w fun e w' => e = .returned (.float .f64 v) ∧ w' = w := by
  have g := mul_run w _ _ _ hr
  clear hr
  unfold zeroB at h0
  have b1 := bits14
  have b2 := from13
  have HN : Hid (∀ w, Calls Tryz.prog 99 #[.float .f64 x] w fun e w' => e = .returned (.tuple #[.float .f64 f, .int .i64 k]) ∧ w' = w) := hn
  clear hn
  subst hS
  go_enter Tryz.func69, Tryz.ntmps69
  go_wp2_with (first | (go_at_call 31; refine (inf12z _ _).mono ?_; rintro e w' ⟨rfl, rfl⟩) | (go_at_call 55; refine (nan11 _ _).mono ?_; rintro e w' ⟨rfl, rfl⟩) | (go_at_call 99; refine (HN.out _).mono ?_; rintro e w' ⟨rfl, rfl⟩))
  go_ret
  exact ⟨rfl, rfl⟩
/-- Ldexp above all floats -/
theorem ldexp87o (x f : Nat) (e k E S : Int) (w : World) (h0 : zeroB x = false) (h1 : pinfB (absN x) = false) (h2 : nanB x = false) (hl : (FloatKind.f64.format.order f 0 == some .lt) = false)
    (hn : ∀ w, Calls Tryz.prog 99 #[.float .f64 x] w fun e w' => e = .returned (.tuple #[.float .f64 f, .int .i64 k]) ∧ w' = w) (he1 : -5000 ≤ e) (he2 : e ≤ 5000000) (hk1 : -52 ≤ k) (hk2 : k ≤ 0)
    (hE : bits BinOp.and IntKind.i64 (wrap64 (↑f / 4503599627370496)) 2047 = E) (hE1 : 0 ≤ E) (hE2 : E ≤ 2047) (hS : e + k + (E - 1023) = S) (hS1 : 1023 < S) :
    Calls Tryz.prog 69 #[.float .f64 x, .int .i64 e] w fun e w' => e = .returned (.float .f64 9218868437227405312) ∧ w' = w := by
  unfold zeroB at h0
  have b1 := bits14
  have b2 := from13
  have HN : Hid (∀ w, Calls Tryz.prog 99 #[.float .f64 x] w fun e w' => e = .returned (.tuple #[.float .f64 f, .int .i64 k]) ∧ w' = w) := hn
  clear hn
  subst hS
  go_enter Tryz.func69, Tryz.ntmps69
  go_wp2_with (first | (go_at_call 31; refine (inf12z _ _).mono ?_; rintro e w' ⟨rfl, rfl⟩) | (go_at_call 55; refine (nan11 _ _).mono ?_; rintro e w' ⟨rfl, rfl⟩) | (go_at_call 99; refine (HN.out _).mono ?_; rintro e w' ⟨rfl, rfl⟩) | (go_at_call 18; refine (inf51p _).mono ?_; rintro e w' ⟨rfl, rfl⟩))
  go_ret
  exact ⟨rfl, rfl⟩
end Go.Proofs.YtnmdnhmfmahjaaaGreatDoor.Fl
namespace Go.Proofs.YtnmdnhmfmahjaaaGreatDoor.Fl
open Go.RowKit
open Ieee
set_option linter.unusedVariables false

def E21 : Nat := 1021
theorem E21_eq : E21 = 1021 := rfl
theorem M_53 : M 4368491638549381120 = 2 ^ E21 := by
  have h := M_at (E21 - 52) 4503599627370496 (Or.inl ⟨by omega, by omega⟩)
  have e : (E21 - 52) * 4503599627370496 + 4503599627370496 = 4368491638549381120 := rfl
  rw [e] at h
  rw [h]
  have e2 : E21 = 52 + (E21 - 52) := rfl
  conv => rhs; rw [e2, Nat.pow_add]
theorem U_form : ∃ A : Nat, A = 1074 ∧ U = 2 ^ A := ⟨E74, E74_eq, by unfold U; rfl⟩
theorem M53_form : ∃ A1 : Nat, A1 = 1021 ∧ M 4368491638549381120 = 2 ^ A1 := ⟨E21, E21_eq, M_53⟩
theorem put_n {P Q : Nat} {last : Int} (hQ : (Q : Int) = last + P - 52) : (((Q + 1) * 4503599627370496 : Nat) : Int) = (((P : Int) + last - 1074) + 1023) * 4503599627370496 := by
  rw [Int.natCast_mul]
  congr 1
  omega
theorem put_s {P j : Nat} {last : Int} (hj : (j : Int) = 52 - (last + P)) (h : j ≤ 52) : (((54 - j) * 4503599627370496 : Nat) : Int) = (((P : Int) + last - 1074) + 53 + 1023) * 4503599627370496 := by
  rw [Int.natCast_mul]
  congr 1
  omega
theorem one_mul_exact (z : Nat) (hz : z < 9218868437227405312) : double.mul (W false 4607182418800017408) (W false z) = some (W (false ^^ false) z) :=
  mul_exact false false 4607182418800017408 _ _ (by omega) hz (Nat.le_of_lt hz) (by rw [M_1, Nat.mul_comm])
theorem small_fin : 4368491638549381120 < 9218868437227405312 := by omega
theorem put_e {Q n m : Nat} (hm : m = 4503599627370496 + n % 4503599627370496) : (Q + 1) * 4503599627370496 + n % 4503599627370496 = Q * 4503599627370496 + m := by
  rw [Nat.succ_mul]; omega
theorem sub_one {j : Nat} (h : j ≤ 52) : 54 - j = (53 - j) + 1 := by omega
theorem pow_cancel {a b k : Nat} (h : a * 2 ^ k = b * 2 ^ k) : a = b := Nat.eq_of_mul_eq_mul_right (Nat.two_pow_pos k) h
theorem pow_le_iff {a b : Nat} (h : 2 ^ a ≤ 2 ^ b) : a ≤ b := (Nat.pow_le_pow_iff_right (by omega)).1 h
/-- WHAT Ldexp TELLS of a whole number of at most 53 bits: the rung of it times that power, or the infinity -/
theorem ldexpN (r0 N R t : Nat) (last : Int) (hN0 : 0 < N) (hr0 : r0 < 9218868437227405312) (h0 : M r0 = N * U) (ht : (t : Int) = last + 1074) (hl : last ≤ 4000000) (hR : M R = N * 2 ^ t) (w : World) :
    Calls Tryz.prog 29 #[.float .f64 (W false r0), .int .i64 last] w fun e w' => e = .returned (.float .f64 (min R 9218868437227405312)) ∧ w' = w := by
  obtain ⟨A, hA, hU⟩ : ∃ A : Nat, A = 1074 ∧ U = 2 ^ A := U_form
  obtain ⟨A1, hA1, hM53⟩ : ∃ A1 : Nat, A1 = 1021 ∧ M 4368491638549381120 = 2 ^ A1 := M53_form
  have hMinf : M 9218868437227405312 = 4503599627370496 * 2 ^ (A + 972) := by
    have := M_at (A + 972) 4503599627370496 (Or.inl ⟨by omega, by omega⟩)
    rw [show (A + 972) * 4503599627370496 + 4503599627370496 = 9218868437227405312 by omega] at this
    exact this
  have r00 : 0 < r0 := by
    refine Nat.pos_of_ne_zero fun h => ?_
    subst h
    rw [M_zero] at h0
    have := Nat.mul_pos hN0 U_pos
    omega
  obtain ⟨n, k, hB, hI, hk, hM, hC⟩ := norm_spec false r0 r00 hr0
  obtain ⟨f1, f2, f3⟩ := fin_facts false r0 r00 hr0
  have hE : n / 4503599627370496 < 2047 := by omega
  have hE1 : 1 ≤ n / 4503599627370496 := by omega
  obtain ⟨P, hP⟩ : ∃ P : Nat, (P : Int) = (n / 4503599627370496 : Nat) - 1 + k + 52 := ⟨((n / 4503599627370496 : Nat) - 1 + k + 52).toNat, by omega⟩
  have hM1 := hM P hP
  obtain ⟨m, hm⟩ : ∃ m, m = 4503599627370496 + n % 4503599627370496 := ⟨_, rfl⟩
  rw [← hm] at hM1
  have hm1 : 4503599627370496 ≤ m := by omega
  have hm2 : m < 9007199254740992 := by omega
  -- M R, by m
  have key : M R * 2 ^ (A + 52) = m * 2 ^ (P + t) := by
    rw [hR, Nat.pow_add 2 P, ← Nat.mul_assoc, ← hM1, h0, hU, Nat.pow_add]
    generalize 2 ^ A = a
    generalize 2 ^ t = b
    generalize (2 : Nat) ^ 52 = c
    ac_rfl
  have hS : last + k + (((n / 4503599627370496 : Nat) : Int) - 1023) = (P : Int) + last - 1074 := by omega
  by_cases c1 : 1023 < (P : Int) + last - 1074
  · -- above all floats
    have hR2 : 9218868437227405312 ≤ R := by
      refine Nat.le_of_not_lt fun hlt => ?_
      have h1 := M_lt hlt
      rw [hMinf] at h1
      have h3 : M R * 2 ^ (A + 52) < 4503599627370496 * 2 ^ (A + 972) * 2 ^ (A + 52) := Nat.mul_lt_mul_of_pos_right h1 (Nat.two_pow_pos _)
      rw [key, Nat.mul_assoc, ← Nat.pow_add] at h3
      have h4 : 4503599627370496 * 2 ^ (A + 972 + (A + 52)) ≤ m * 2 ^ (P + t) := Nat.mul_le_mul hm1 (Nat.pow_le_pow_right (by omega) (by omega))
      omega
    rw [Nat.min_eq_right hR2]
    have hl0 : (FloatKind.f64.format.order (W false n) 0 == some .lt) = false := by
      have := B_lt false false n 0 (by omega) (by omega)
      rw [show W false 0 = 0 from rfl] at this
      rw [this, val_zero]
      exact decide_eq_false (by unfold val; simp only [Bool.false_eq_true, if_false]; omega)
    exact ldexp71 _ _ last w (fun w => ldexp87o _ _ last k _ _ w f1 f2 f3 hl0 hC (by omega) (by omega) (by omega) (by omega) (i64_exp false n (by omega)) (by omega) (by omega) hS c1)
  · by_cases c2 : -1022 ≤ (P : Int) + last - 1074
    · -- a normal number
      obtain ⟨Q, hQ⟩ : ∃ Q : Nat, (Q : Int) = last + P - 52 := ⟨(last + P - 52).toNat, by omega⟩
      have hMR : M R = m * 2 ^ Q := by
        refine pow_cancel (k := A + 52) ?_
        rw [key, Nat.mul_assoc, ← Nat.pow_add]
        rw [show P + t = Q + (A + 52) by omega]
      have hz : Q * 4503599627370496 + m < 9218868437227405312 := by omega
      have hRz : R = Q * 4503599627370496 + m := M_inj (hMR.trans (M_at Q m (Or.inl ⟨hm1, by omega⟩)).symm)
      rw [Nat.min_eq_left (by omega), hRz]
      have hput := bit_put false (n % 4503599627370496) (Q + 1) (by omega) (by omega)
      have e1 : (((Q + 1) * 4503599627370496 : Nat) : Int) = (((P : Int) + last - 1074) + 1023) * 4503599627370496 := put_n hQ
      have e2 : (Q + 1) * 4503599627370496 + n % 4503599627370496 = Q * 4503599627370496 + m := put_e hm
      rw [e1, e2] at hput
      have hone := one_mul_exact _ hz
      rw [show W false 4607182418800017408 = 4607182418800017408 from rfl, Bool.false_xor] at hone
      exact ldexp71 _ _ last w (fun w => ldexp87 _ _ _ _ last k _ _ w f1 f2 f3 hC (by omega) (by omega) (by omega) (by omega) (i64_exp false n (by omega)) (by omega) (by omega) hS c2 (by omega) (bit_cut false n (by omega)) hput hone)
    · -- a subnormal number
      obtain ⟨j, hj⟩ : ∃ j : Nat, (j : Int) = 52 - (last + P) := ⟨(52 - (last + P)).toNat, by omega⟩
      have hMj : M R * 2 ^ j = m := by
        refine pow_cancel (k := P + t) ?_
        rw [← key, Nat.mul_assoc, ← Nat.pow_add]
        rw [show A + 52 = j + (P + t) by omega]
      have hR0 : 0 < M R := by
        refine Nat.pos_of_ne_zero fun h => ?_
        rw [h, Nat.zero_mul] at hMj
        omega
      have hj52 : j ≤ 52 := by
        refine Nat.le_of_not_lt fun hlt => ?_
        have h1 : 1 * 2 ^ 53 ≤ M R * 2 ^ j := Nat.mul_le_mul hR0 (Nat.pow_le_pow_right (by omega) (by omega))
        rw [hMj] at h1
        omega
      have hRlt : R < 4503599627370496 := by
        refine Nat.lt_of_not_le fun hle => ?_
        have h1 := M_le hle
        have h2 : M 4503599627370496 = 4503599627370496 := by
          have := M_at 0 4503599627370496 (Or.inr ⟨rfl, by omega⟩)
          rw [Nat.zero_mul, Nat.zero_add] at this
          rw [this]
        rw [h2] at h1
        have h3 : 4503599627370496 * 2 ^ 1 ≤ M R * 2 ^ j := Nat.mul_le_mul h1 (Nat.pow_le_pow_right (by omega) (by omega))
        rw [hMj] at h3
        omega
      rw [Nat.min_eq_left (by omega)]
      have hput := bit_put false (n % 4503599627370496) (54 - j) (by omega) (by omega)
      have e1 : (((54 - j) * 4503599627370496 : Nat) : Int) = (((P : Int) + last - 1074) + 53 + 1023) * 4503599627370496 := put_s hj hj52
      have e2 : (54 - j) * 4503599627370496 + n % 4503599627370496 = (53 - j) * 4503599627370496 + m := by
        rw [show 54 - j = (53 - j) + 1 from sub_one hj52]
        exact put_e hm
      rw [e1, e2] at hput
      have hz : (53 - j) * 4503599627370496 + m < 9218868437227405312 := by omega
      have hMz : M ((53 - j) * 4503599627370496 + m) = m * 2 ^ (53 - j) := M_at (53 - j) m (Or.inl ⟨hm1, by omega⟩)
      have hprod := mul_exact false false 4368491638549381120 ((53 - j) * 4503599627370496 + m) R small_fin hz (Nat.le_of_lt (Nat.lt_trans hRlt (by decide))) (by
        rw [hM53, hMz, ← hMj, hU, show A = A1 + j + (53 - j) by omega, Nat.pow_add, Nat.pow_add]
        generalize 2 ^ A1 = a
        generalize 2 ^ j = b
        generalize 2 ^ (53 - j) = c
        ac_rfl)
      rw [show W false 4368491638549381120 = 4368491638549381120 from rfl, Bool.false_xor] at hprod
      exact ldexp71 _ _ last w (fun w => ldexp87s _ _ _ _ _ last k _ _ w f1 f2 f3 hC (by omega) (by omega) (by omega) (by omega) (i64_exp false n (by omega)) (by omega) (by omega) hS (by omega) (by omega) (bit_cut false n (by omega)) hput hprod)
end Go.Proofs.YtnmdnhmfmahjaaaGreatDoor.Fl
