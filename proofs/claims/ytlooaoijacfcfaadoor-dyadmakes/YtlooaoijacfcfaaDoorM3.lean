import Derived.Test.YtlooaoijacfcfaaDoorM2
namespace Go.Proofs.YtlooaoijacfcfaaDoor.Fl
open Go.RowKit
open Ieee
set_option linter.unusedVariables false

/-- told: that sign, size, power and error -/
def Told (S : Bool) (X : Nat) (E G : Int) (w1 : World) (r : Ending) (w' : World) : Prop := ∃ ad n cap, r = .returned (.tuple #[.agg #[.bool S, .slice ad n cap, .int .i64 E], .int .i64 G]) ∧ Lim w' ad n cap 18446744073709551616 X ∧ Gr w1 w'
/-- both tell the same, in every grown world -/
def Both (f g : Nat) (args : Array Value) (w : World) : Prop := ∃ S X E G, (∀ w1, Gr w w1 → Calls Tryd.prog f args w1 (Told S X E G w1)) ∧ (∀ w1, Gr w w1 → Calls Tryd.prog g args w1 (Told S X E G w1))
theorem both_set {f g : Nat} {args : Array Value} {w : World} (V : Int) (h1 : ∀ w1, Gr w w1 → Calls Tryd.prog f args w1 fun r w' => SetV w' r V ∧ Gr w1 w') (h2 : ∀ w1, Gr w w1 → Calls Tryd.prog g args w1 fun r w' => SetV w' r V ∧ Gr w1 w') : Both f g args w := by
  obtain ⟨S, X, E, G, h⟩ := setv_ans V
  refine ⟨S, X, E, G, fun w1 g1 => (h1 w1 g1).mono ?_, fun w1 g1 => (h2 w1 g1).mono ?_⟩
  · rintro r w' ⟨hs, hg⟩
    obtain ⟨s, ad, n, cap, e, g, rfl, hA⟩ := h _ _ hs
    obtain ⟨rfl, rfl, rfl, hl⟩ := hA
    exact ⟨ad, n, cap, rfl, hl, hg⟩
  · rintro r w' ⟨hs, hg⟩
    obtain ⟨s, ad, n, cap, e, g, rfl, hA⟩ := h _ _ hs
    obtain ⟨rfl, rfl, rfl, hl⟩ := hA
    exact ⟨ad, n, cap, rfl, hl, hg⟩
theorem both_no {f g : Nat} {args : Array Value} {w : World} (G : Int) (h1 : ∀ w1, Gr w w1 → Calls Tryd.prog f args w1 fun r w' => r = .returned (.tuple #[zeroD, .int .i64 G]) ∧ Gr w1 w') (h2 : ∀ w1, Gr w w1 → Calls Tryd.prog g args w1 fun r w' => r = .returned (.tuple #[zeroD, .int .i64 G]) ∧ Gr w1 w') : Both f g args w := by
  refine ⟨false, 0, 0, G, fun w1 g1 => (h1 w1 g1).mono ?_, fun w1 g1 => (h2 w1 g1).mono ?_⟩
  · rintro r w' ⟨rfl, hg⟩
    exact ⟨none, 0, 0, rfl, nil_lim _, hg⟩
  · rintro r w' ⟨rfl, hg⟩
    exact ⟨none, 0, 0, rfl, nil_lim _, hg⟩
theorem two_forms {m n P Q : Nat} (hm : 4503599627370496 ≤ m) (hm' : m < 9007199254740992) (hn : 4503599627370496 ≤ n) (hn' : n < 9007199254740992) (h : m * 2 ^ P = n * 2 ^ Q) : m = n ∧ P = Q := by
  have key : ∀ {m n P Q : Nat}, 4503599627370496 ≤ m → n < 9007199254740992 → m * 2 ^ P = n * 2 ^ Q → P ≤ Q := by
    intro m n P Q hm hn h
    refine Nat.le_of_not_lt fun hlt => ?_
    obtain ⟨d, rfl⟩ : ∃ d, P = Q + 1 + d := ⟨P - Q - 1, by omega⟩
    have e : m * 2 ^ (Q + 1 + d) = m * (2 * 2 ^ d) * 2 ^ Q := by rw [Nat.pow_add, Nat.pow_succ]; ac_rfl
    rw [e] at h
    have h2 := Nat.eq_of_mul_eq_mul_right (Nat.two_pow_pos Q) h
    have h3 : m * (2 * 1) ≤ m * (2 * 2 ^ d) := Nat.mul_le_mul_left _ (Nat.mul_le_mul_left _ (Nat.two_pow_pos d))
    omega
  have h1 := key hm hn' h
  have h2 := key hn hm' h.symm
  obtain rfl : P = Q := by omega
  exact ⟨Nat.eq_of_mul_eq_mul_right (Nat.two_pow_pos P) h, rfl⟩
theorem lt_zero (s : Bool) (r : Nat) (h0 : 0 < r) (hr : r < 9218868437227405312) : (FloatKind.f64.format.order (W s r) 0 == some .lt) = s := by
  have := B_lt s false r 0 (by omega) (by omega)
  rw [show W false 0 = 0 from rfl] at this
  rw [this, val_zero]
  have := M_pos h0
  unfold val
  cases s
  · exact decide_eq_false (by simp only [Bool.false_eq_true, if_false]; omega)
  · exact decide_eq_true (by simp only [if_true]; omega)
def E21 : Nat := 1021
theorem E21_eq : E21 = 1021 := rfl
/-- the worth of a float -/
theorem sv_same (s : Bool) (m r P : Nat) (hP : P ≤ 2097) (h : M r * 2 ^ 52 = m * 2 ^ P) : sv KK s m ((P : Int) - 1126) = sv KK s (mant r) ((ex r : Int) - 1074) := by
  have hkk := KK_eq
  have key : m * 2 ^ ((P : Int) - 1126 + KK).toNat = mant r * 2 ^ ((ex r : Int) - 1074 + KK).toNat := by
    have e1 : ((P : Int) - 1126 + KK).toNat = P + 4193178 := by omega
    have e2 : ((ex r : Int) - 1074 + KK).toNat = ex r + 52 + 4193178 := by omega
    rw [e1, e2, Nat.pow_add, Nat.pow_add 2 (ex r + 52), ← Nat.mul_assoc, ← Nat.mul_assoc, ← h, Nat.pow_add 2 (ex r), ← Nat.mul_assoc]
    rfl
  unfold sv
  rw [key]
theorem both_of (s : Bool) (r : Nat) (w : World) (h : r < 9223372036854775808) (hT : TabAt 1 Lib.deBruijn64tab w) : Both 4 5 #[.float .f64 (W s r)] w := by
  have hkk := KK_eq
  by_cases hi : 9218868437227405312 ≤ r
  · refine both_no 5 (fun w1 g => of4n _ w1 ?_) (fun w1 g => of5n s r w1 h hi)
    rw [nanB_W s r h, abs_W s r h]
    by_cases hn : 9218868437227405312 < r
    · rw [decide_eq_true hn]; rfl
    · obtain rfl : r = 9218868437227405312 := by omega
      have := pinfB_W false 9218868437227405312 (by omega)
      rw [show W false 9218868437227405312 = 9218868437227405312 from rfl] at this
      rw [this]; rfl
  · have hr : r < 9218868437227405312 := by omega
    have he : ex r ≤ 2047 := by unfold ex; omega
    refine both_set (sv KK s (mant r) ((ex r : Int) - 1074)) (fun w1 g => ?_) (fun w1 g => (of5 s r w1 hr).mono ?_)
    · by_cases h0 : r = 0
      · subst h0
        have z0 : zeroB (W s 0) = true := by rw [zeroB_W s 0 (by omega)]; rfl
        have f2 : pinfB (absN (W s 0)) = false := by
          rw [abs_W s 0 (by omega)]
          have := pinfB_W false 0 (by omega)
          rw [show W false 0 = 0 from rfl] at this
          rw [this]; rfl
        have f1 : nanB (W s 0) = false := by rw [nanB_W s 0 (by omega)]; rfl
        have z1 : (zeroB (absN (W s 0)) || pinfB (absN (absN (W s 0)))) = true := by
          rw [abs_W s 0 (by omega)]
          have := zeroB_W false 0 (by omega)
          rw [show W false 0 = 0 from rfl] at this
          rw [this]; rfl
        have hs : (FloatKind.f64.format.order (W s 0) 0 == some .lt) = false := by
          have := B_lt s false 0 0 (by omega) (by omega)
          rw [show W false 0 = 0 from rfl] at this
          rw [this, val_zero, val_zero]; rfl
        have hc : ∀ w, (convert 25 39 (.float .f64 (absN (W s 0)))).run Tryd.prog w = .ok (.int .u64 ((0 : Nat) : Int)) w := fun w => by
          rw [abs_W s 0 (by omega)]
          have := toU_W 0 (by omega) (by rw [M_zero, Nat.zero_div]; omega)
          rw [show W false 0 = 0 from rfl, M_zero, Nat.zero_div] at this
          exact run_convert_float_int (P := Tryd.prog) w 25 39 .f64 .u64 0 _ (by kernel_rfl) (by kernel_rfl) this
        refine (of4 (W s 0) (W s 0) (absN (W s 0)) 0 false 0 w1 f1 f2 (fun w => frexp69 _ _ _ w (fun w => frexp85z _ w z0)) (fun w => ldexp_same _ 53 w z1) hc hs (by omega) (by omega) (by omega) (tab_gr hT g)).mono ?_
        rintro res w' ⟨hS, hg⟩
        refine ⟨⟨false, 0, _, by omega, ?_, hS⟩, hg⟩
        rw [sv_zero, show mant 0 = 0 from rfl, sv_zero]
      · have h0' : 0 < r := by omega
        obtain ⟨f0, f2, f1⟩ := fin_facts s r h0' hr
        obtain ⟨m, P, hm, hm', hP, hM, HF⟩ := frexp_spec s r h0' hr
        have hlt : 1021 * 4503599627370496 + m < 9218868437227405312 := by omega
        have habs : absN (W s (1021 * 4503599627370496 + m)) = W false (1021 * 4503599627370496 + m) := abs_W s _ (by omega)
        obtain ⟨m', P', hn, hn', hP', hM', HL⟩ := ldexp_spec false (1021 * 4503599627370496 + m) (by omega) hlt
        have hMm : M (1021 * 4503599627370496 + m) = m * 2 ^ E21 := M_at E21 m (Or.inl ⟨hm, by omega⟩)
        rw [hMm, Nat.mul_assoc, ← Nat.pow_add] at hM'
        obtain ⟨rfl, hPP⟩ := two_forms hm hm' hn hn' hM'
        have hE21 := E21_eq
        have hL := HL 53 1074 (by omega) (by omega) (by omega) (by omega)
        have hMz : M (1074 * 4503599627370496 + m) = m * U := M_at E74 m (Or.inl ⟨hm, by omega⟩)
        have hc : ∀ w, (convert 25 39 (.float .f64 (W false (1074 * 4503599627370496 + m)))).run Tryd.prog w = .ok (.int .u64 (m : Int)) w := fun w => by
          have hq : M (1074 * 4503599627370496 + m) / U = m := by rw [hMz]; exact Nat.mul_div_cancel _ U_pos
          have := toU_W (1074 * 4503599627370496 + m) (by omega) (by rw [hq]; omega)
          rw [hq] at this
          exact run_convert_float_int (P := Tryd.prog) w 25 39 .f64 .u64 _ _ (by kernel_rfl) (by kernel_rfl) this
        refine (of4 (W s r) _ _ m s ((P : Int) - 1073) w1 f1 f2 HF (by rw [habs]; exact hL) hc (lt_zero s r h0' hr) (by omega) (by omega) (by omega) (tab_gr hT g)).mono ?_
        rintro res w' ⟨hS, hg⟩
        refine ⟨⟨s, m, _, by omega, ?_, hS⟩, hg⟩
        rw [show (P : Int) - 1073 - 53 = (P : Int) - 1126 by omega]
        exact sv_same s m r P hP hM
    · rintro res w' ⟨hS, hg⟩
      exact ⟨⟨s, mant r, _, by omega, rfl, hS⟩, hg⟩
end Go.Proofs.YtlooaoijacfcfaaDoor.Fl
