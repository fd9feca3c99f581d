import Derived.Test.YteompnpfoplppaaD10
namespace Go.Proofs.Yteompnpfoplppaa
open Go.RowKit
open Ieee
set_option linter.unusedVariables false

theorem div_run (w : World) (x y r : Nat) (h : double.div x y = some r) : (binOp .quo 22 (.float .f64 x) (.float .f64 y)).run Try.prog w = .ok (.float .f64 r) w :=
  run_float_arith (P := Try.prog) w .quo 22 .f64 x y r h

theorem quot51 (a b p fa fb q nq o no : Nat) (ea eb : Int) (t : Bool) (w : World) (h1 : -3000 ≤ ea) (h2 : ea ≤ 3000) (h3 : -3000 ≤ eb) (h4 : eb ≤ 3000)
    (hA : ∀ w, Calls Try.prog 63 #[.float .f64 a] w fun e w' => e = .returned (.tuple #[.float .f64 fa, .int .i64 ea]) ∧ w' = w)
    (hB : ∀ w, Calls Try.prog 63 #[.float .f64 b] w fun e w' => e = .returned (.tuple #[.float .f64 fb, .int .i64 eb]) ∧ w' = w)
    (hQ : ∀ w, Calls Try.prog 65 #[.float .f64 p, .int .i64 (eb - ea)] w fun e w' => e = .returned (.float .f64 q) ∧ w' = w)
    (hq : negN q = nq) (hf : double.fma nq fb fa = some o) (ht : negB b = t) (hno : negN o = no) :
    Calls Try.prog 44 #[.float .f64 a, .float .f64 b, .float .f64 p] w fun e w' => e = .returned (.float .f64 (if t then no else o)) ∧ w' = w := by
  have HA : Hid (∀ w, Calls Try.prog 63 #[.float .f64 a] w fun e w' => e = .returned (.tuple #[.float .f64 fa, .int .i64 ea]) ∧ w' = w) := hA
  have HB : Hid (∀ w, Calls Try.prog 63 #[.float .f64 b] w fun e w' => e = .returned (.tuple #[.float .f64 fb, .int .i64 eb]) ∧ w' = w) := hB
  have HQ : Hid (∀ w, Calls Try.prog 65 #[.float .f64 p, .int .i64 (eb - ea)] w fun e w' => e = .returned (.float .f64 q) ∧ w' = w) := hQ
  clear hA hB hQ
  have g1 : ∀ w, (Op.unary .neg (.float .f64 q)).run Try.prog w = .ok (.float .f64 nq) w := by
    intro w; rw [← hq]; exact neg_run _ w
  have g3 : ∀ w, (Op.unary .neg (.float .f64 o)).run Try.prog w = .ok (.float .f64 no) w := by
    intro w; rw [← hno]; exact neg_run _ w
  have g2 := fun w => fma70 _ _ _ _ w hf
  clear hq hf hno
  unfold negB at ht
  cases t
  all_goals
    go_enter Try.func44, Try.ntmps44
    go_wp2_with (first | (go_at_call 63; with_reducible refine (HA.out _).mono ?_; rintro e w' ⟨rfl, rfl⟩) | (go_at_call 63; with_reducible refine (HB.out _).mono ?_; rintro e w' ⟨rfl, rfl⟩) | (go_at_call 65; refine (HQ.out _).mono ?_; rintro e w' ⟨rfl, rfl⟩))
    go_ret
    exact ⟨rfl, rfl⟩

theorem fma_inf_first (u t s : Bool) (b a : Nat) (hb0 : 0 < b) (hb : b < 9218868437227405312) (ha : a < 9218868437227405312) : double.fma (W u 9218868437227405312) (W t b) (W s a) = some (W (u ^^ t) 9218868437227405312) := by
  have hmb : mant b ≠ 0 := by
    intro h
    have := M_pos hb0
    unfold M at this
    rw [h, Nat.zero_mul] at this
    omega
  unfold Format.fma
  rw [read_inf, read_fin t b hb, read_fin s a ha]
  simp only [Datum.product]
  rw [if_neg hmb]
  cases u <;> cases t <;> rfl

theorem flip_says (s t so : Bool) (d P F : Nat) (X : Int) (hd : d ≤ 9218868437227405312) (hX : X = if s then (P : Int) - (F : Int) else (F : Int) - (P : Int))
    (g3 : posB (W so d) = decide (0 < X)) (g4 : negB (W so d) = decide (X < 0)) :
    (if (s ^^ t) then negB (if t then W (!so) d else W so d) else posB (if t then W (!so) d else W so d)) = decide (P < F) ∧
    (if (s ^^ t) then posB (if t then W (!so) d else W so d) else negB (if t then W (!so) d else W so d)) = decide (F < P) := by
  have f1 : posB (W (!so) d) = negB (W so d) := by rw [posB_W _ _ hd, negB_W _ _ hd, Bool.not_not]
  have f2 : negB (W (!so) d) = posB (W so d) := by rw [posB_W _ _ hd, negB_W _ _ hd]
  subst hX
  cases s <;> cases t <;> simp only [Bool.xor_false, Bool.xor_true, Bool.not_true, Bool.not_false, Bool.false_eq_true, if_false, if_true, f1, f2, g3, g4] <;> constructor <;> exact decide_eq_decide.2 (by omega)

theorem fmaX_div (s t : Bool) (q b a : Nat) : fmaX (!(s ^^ t)) t s q b a = if s then ((M q * M b : Nat) : Int) - ((M a * U : Nat) : Int) else ((M a * U : Nat) : Int) - ((M q * M b : Nat) : Int) := by
  unfold fmaX val
  rw [Int.natCast_mul (M a) U]
  generalize ((M q * M b : Nat) : Int) = y
  cases s <;> cases t <;> simp only [Bool.xor_false, Bool.xor_true, Bool.not_true, Bool.not_false, Bool.false_eq_true, if_false, if_true] <;> first | (rw [Int.neg_mul]; rfl) | (rw [Int.sub_eq_add_neg, Int.add_comm])

/-- what the quotient's error says -/
theorem div_err (s t : Bool) (a b c : Nat) (ha : a < 9218868437227405312) (hb : b < 9218868437227405312) (hb0 : 0 < b) (hn : Near (M a * U) (M b) c) (hhalf : 0 < c → c < 9218868437227405312 → M c * M b ≤ 2 * (M a * U)) :
    ∃ o, (∀ w, Calls Try.prog 44 #[.float .f64 (W s a), .float .f64 (W t b), .float .f64 (W (s ^^ t) c)] w fun e w' => e = .returned (.float .f64 o) ∧ w' = w) ∧
      (if (s ^^ t) then negB o else posB o) = decide (c < 9218868437227405312 ∧ M c * M b < M a * U) ∧
      (if (s ^^ t) then posB o else negB o) = decide (c = 9218868437227405312 ∨ M a * U < M c * M b) := by
  have hU := U_pos
  obtain ⟨hn1, hn2, hn3⟩ := hn
  have hneg : negB (W t b) = t := by rw [negB_W t b (by omega), decide_eq_true (by omega), Bool.and_true]
  obtain ⟨mb, Pb, b1, b2, b3, b4, b5⟩ := frexp_spec t b hb0 hb
  by_cases hz : a = 0
  · subst hz
    have hc : c = 0 := by
      refine Nat.eq_zero_of_not_pos fun hp => ?_
      have := hn3 hp
      rw [M_zero, Nat.zero_mul] at this
      omega
    subst hc
    have hX : fmaX (!(s ^^ t)) t s 0 (1021 * 4503599627370496 + mb) 0 = 0 := by
      rw [fmaX_div, M_zero, Nat.zero_mul, Nat.zero_mul]
      cases s <;> rfl
    obtain ⟨so, d, g1, g2, g3, g4⟩ := fma_sign (!(s ^^ t)) t s 0 (1021 * 4503599627370496 + mb) 0 (by omega) (by omega) (by omega) (Or.inl hX)
    rw [hX] at g3 g4
    obtain ⟨k1, k2⟩ := flip_says s t so d 0 0 0 g1 (by cases s <;> rfl) g3 g4
    refine ⟨_, fun w => quot51 _ _ _ _ _ _ _ _ _ 0 _ t w (by omega) (by omega) (by omega) (by omega) (fun w => frexp69 _ _ _ w fun w => frexp85z _ w (by rw [zeroB_W s 0 (by omega)]; rfl)) b5 (fun w => ldexp_same _ _ w (by rw [zeroB_W _ 0 (by omega)]; rfl)) (neg_W _ 0 (by omega)) g2 hneg (neg_W so d (by omega)), ?_, ?_⟩
    · rw [k1, M_zero, Nat.zero_mul, Nat.zero_mul]; rfl
    · rw [k2, M_zero, Nat.zero_mul, Nat.zero_mul]; rfl
  · have ha0 : 0 < a := by omega
    have hNpos : 0 < M a * U := Nat.mul_pos (M_pos ha0) hU
    obtain ⟨ma, Pa, a1, a2, a3, a4, a5⟩ := frexp_spec s a ha0 ha
    by_cases hcI : c = 9218868437227405312
    · subst hcI
      have hf := fma_inf_first (!(s ^^ t)) t s (1021 * 4503599627370496 + mb) (1021 * 4503599627370496 + ma) (by omega) (by omega) (by omega)
      refine ⟨_, fun w => quot51 _ _ _ _ _ _ _ _ _ _ _ t w (by omega) (by omega) (by omega) (by omega) a5 b5 (fun w => ldexp_same _ _ w (by
          rw [abs_W _ _ (by omega)]
          have := pinfB_W false 9218868437227405312 (by omega)
          rw [show W false 9218868437227405312 = 9218868437227405312 from rfl] at this
          rw [this, Bool.or_eq_true]
          exact Or.inr rfl)) (neg_W _ _ (by omega)) hf hneg (neg_W _ _ (by omega)), ?_, ?_⟩
      · rw [decide_eq_false (p := 9218868437227405312 < 9218868437227405312 ∧ _) (by omega)]
        cases s <;> cases t <;> rfl
      · rw [decide_eq_true (p := 9218868437227405312 = 9218868437227405312 ∨ _) (Or.inl rfl)]
        cases s <;> cases t <;> rfl
    · by_cases hc0 : c = 0
      · subst hc0
        have hX := fmaX_div s t 0 (1021 * 4503599627370496 + mb) (1021 * 4503599627370496 + ma)
        have hdv : U ∣ M 0 * M (1021 * 4503599627370496 + mb) := by rw [M_zero, Nat.zero_mul]; exact Nat.dvd_zero _
        obtain ⟨so, d, g1, g2, g3, g4⟩ := fma_sign (!(s ^^ t)) t s 0 (1021 * 4503599627370496 + mb) (1021 * 4503599627370496 + ma) (by omega) (by omega) (by omega) (fmaX_dvd _ _ _ _ _ _ hdv)
        obtain ⟨k1, k2⟩ := flip_says s t so d _ _ _ g1 hX g3 g4
        have hFpos : 0 < M (1021 * 4503599627370496 + ma) * U := Nat.mul_pos (M_pos (by omega)) hU
        refine ⟨_, fun w => quot51 _ _ _ _ _ _ _ _ _ _ _ t w (by omega) (by omega) (by omega) (by omega) a5 b5 (fun w => ldexp_same _ _ w (by rw [zeroB_W _ 0 (by omega)]; rfl)) (neg_W _ 0 (by omega)) g2 hneg (neg_W so d (by omega)), ?_, ?_⟩
        · rw [k1, M_zero, Nat.zero_mul, Nat.zero_mul, decide_eq_true hFpos, decide_eq_true ⟨by omega, hNpos⟩]
        · rw [k2, M_zero, Nat.zero_mul, Nat.zero_mul, decide_eq_false (Nat.not_lt_zero _), decide_eq_false (by omega)]
      · obtain ⟨mc, Pc, c1, c2, c3, c4, c5⟩ := ldexp_spec (s ^^ t) c (by omega) (by omega)
        have hN : M c * M b * 2 ^ 104 = mc * mb * 2 ^ (Pc + Pb) := by
          rw [show (104 : Nat) = 52 + 52 from rfl, Nat.pow_add, Nat.mul_mul_mul_comm, c4, b4, Nat.pow_add, Nat.mul_mul_mul_comm]
        have hC : M a * U * 2 ^ 104 = ma * 2 ^ (Pa + 1126) := by
          have e : Pa + 1126 = Pa + (52 + E74) := rfl
          rw [show (104 : Nat) = 52 + 52 from rfl, Nat.pow_add, e, Nat.pow_add, Nat.pow_add, ← Nat.mul_assoc ma, ← a4]
          unfold U
          rw [Nat.mul_mul_mul_comm, Nat.mul_comm (2 ^ E74) (2 ^ 52)]
        have r1 : M a * U ≤ 2 * (M c * M b) := by
          refine Nat.le_of_lt (Nat.lt_of_lt_of_le (hn2 (by omega)) ?_)
          rw [← Nat.mul_assoc]
          exact Nat.mul_le_mul_right _ (M_dbl (by omega))
        obtain ⟨q1, q2⟩ := mul_range mc mb ma Pc Pb Pa _ _ c1 c2 b1 b2 a1 a2 hN hC (hhalf (by omega) (by omega)) r1
        obtain ⟨Q, hQ⟩ : ∃ Q : Nat, Q + (Pa + 52) = Pb + Pc := ⟨Pb + Pc - (Pa + 52), by omega⟩
        have hL := c5 (((Pb : Int) - 1073) - ((Pa : Int) - 1073)) Q (by omega) (by omega) (by omega) (by omega)
        have hMq : M (Q * 4503599627370496 + mc) = mc * 2 ^ Q := M_at Q mc (Or.inl ⟨c1, by omega⟩)
        have e1 : M (Q * 4503599627370496 + mc) * M (1021 * 4503599627370496 + mb) * 2 ^ (Pa + 52) = M c * M b * (2 ^ 104 * 2 ^ E21) := by
          rw [hMq, M_frac mb b1 b2, Nat.mul_mul_mul_comm, ← Nat.pow_add, ← Nat.mul_assoc (M c * M b), hN, Nat.mul_assoc (mc * mb), ← Nat.pow_add, Nat.mul_assoc (mc * mb), ← Nat.pow_add]
          have e : Q + E21 + (Pa + 52) = Pc + Pb + E21 := by omega
          rw [e]
        have e2 : M (1021 * 4503599627370496 + ma) * U * 2 ^ (Pa + 52) = M a * U * (2 ^ 104 * 2 ^ E21) := by
          rw [M_frac ma a1 a2, ← Nat.mul_assoc (M a * U), hC]
          unfold U
          rw [Nat.mul_assoc ma, ← Nat.pow_add, Nat.mul_assoc ma, ← Nat.pow_add, Nat.mul_assoc ma, ← Nat.pow_add]
          have e : E21 + E74 + (Pa + 52) = Pa + 1126 + E21 := by
            have h1 : E74 = 1074 := rfl
            omega
          rw [e]
        obtain ⟨k1, k2⟩ := scaled (Nat.two_pow_pos _) (Nat.mul_pos (Nat.two_pow_pos _) (Nat.two_pow_pos _)) e1 e2
        have hX := fmaX_div s t (Q * 4503599627370496 + mc) (1021 * 4503599627370496 + mb) (1021 * 4503599627370496 + ma)
        have hdv : U ∣ M (Q * 4503599627370496 + mc) * M (1021 * 4503599627370496 + mb) := by
          rw [hMq, M_frac mb b1 b2, Nat.mul_mul_mul_comm, ← Nat.pow_add]
          unfold U
          refine Nat.dvd_trans (Nat.pow_dvd_pow 2 ?_) (Nat.dvd_mul_left ..)
          have h1 : E74 = 1074 := rfl
          have h2 : E21 = 1021 := rfl
          omega
        obtain ⟨so, d, g1, g2, g3, g4⟩ := fma_sign (!(s ^^ t)) t s (Q * 4503599627370496 + mc) (1021 * 4503599627370496 + mb) (1021 * 4503599627370496 + ma) (by omega) (by omega) (by omega) (fmaX_dvd _ _ _ _ _ _ hdv)
        obtain ⟨l1, l2⟩ := flip_says s t so d _ _ _ g1 hX g3 g4
        refine ⟨_, fun w => quot51 _ _ _ _ _ _ _ _ _ _ _ t w (by omega) (by omega) (by omega) (by omega) a5 b5 hL (neg_W _ _ (by omega)) g2 hneg (neg_W so d (by omega)), ?_, ?_⟩
        · rw [l1]
          exact decide_eq_decide.2 ⟨fun h => ⟨by omega, k1.1 h⟩, fun h => k1.2 h.2⟩
        · rw [l2]
          refine decide_eq_decide.2 ⟨fun h => Or.inr (k2.1 h), fun h => ?_⟩
          rcases h with h | h
          · exact absurd h hcI
          · exact k2.2 h
end Go.Proofs.Yteompnpfoplppaa
