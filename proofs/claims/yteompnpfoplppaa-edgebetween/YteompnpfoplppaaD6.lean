import Derived.Test.YteompnpfoplppaaD5
namespace Go.Proofs.Yteompnpfoplppaa
open Go.RowKit
open Ieee
set_option linter.unusedVariables false

theorem i64_exp (s : Bool) (n : Nat) (h : n < 9223372036854775808) : bits BinOp.and IntKind.i64 (wrap64 ((W s n : Nat) / 4503599627370496 : Int)) 2047 = ((n / 4503599627370496 : Nat) : Int) := by
  have e : ((W s n : Nat) / 4503599627370496 : Int) = ((W s n / 4503599627370496 : Nat) : Int) := by simp
  have hl := W_lt s n h
  have e2 : wrap64 ((W s n / 4503599627370496 : Nat) : Int) = ((W s n / 4503599627370496 : Nat) : Int) := by unfold wrap64; omega
  rw [e, e2]
  have key : ∀ a : Nat, a < 4096 → bits .and .i64 (a : Int) ((2047 : Nat) : Int) = ((a &&& 2047 : Nat) : Int) := by
    intro a ha
    have hx : a &&& 2047 < 2 ^ 12 := Nat.and_lt_two_pow _ (by omega)
    show IntKind.i64.wrap ((BitVec.ofInt 64 (a : Int) &&& BitVec.ofInt 64 ((2047 : Nat) : Int)).toNat : Int) = _
    rw [BitVec.toNat_and, ofInt_u64 a (by omega), ofInt_u64 2047 (by omega), IntKind.wrap_i64]
    omega
  rw [show (2047 : Int) = ((2047 : Nat) : Int) from rfl, key _ (by omega)]
  have h2 := Nat.and_two_pow_sub_one_eq_mod (W s n / 4503599627370496) 11
  rw [show (2047 : Nat) = 2 ^ 11 - 1 from rfl, h2, W_eq]
  congr 1
  cases s <;> simp <;> omega

theorem M_1 : M 4607182418800017408 = U := by
  have h := M_at (E74 - 52) 4503599627370496 (Or.inl ⟨by omega, by omega⟩)
  have e : (E74 - 52) * 4503599627370496 + 4503599627370496 = 4607182418800017408 := rfl
  rw [e] at h
  rw [h]
  unfold U
  have e2 : E74 = 52 + (E74 - 52) := rfl
  conv => rhs; rw [e2, Nat.pow_add]

/-- WHAT Ldexp TELLS of what is not 0, where that is no subnormal number and not too great -/
theorem ldexp_spec (s : Bool) (r : Nat) (h0 : 0 < r) (hr : r < 9218868437227405312) :
    ∃ m P : Nat, 4503599627370496 ≤ m ∧ m < 9007199254740992 ∧ P ≤ 2097 ∧ M r * 2 ^ 52 = m * 2 ^ P ∧
      ∀ (e : Int) (Q : Nat), -5000 ≤ e → e ≤ 5000 → (Q : Int) = e + P - 52 → Q ≤ 2045 → ∀ w,
        Calls Try.prog 65 #[.float .f64 (W s r), .int .i64 e] w fun e w' => e = .returned (.float .f64 (W s (Q * 4503599627370496 + m))) ∧ w' = w := by
  obtain ⟨n, k, hB, hI, hk, hM, hC⟩ := norm_spec s r h0 hr
  obtain ⟨f1, f2, f3⟩ := fin_facts s r h0 hr
  have hE : n / 4503599627370496 < 2047 := by omega
  have hE1 : 1 ≤ n / 4503599627370496 := by omega
  refine ⟨4503599627370496 + n % 4503599627370496, ((n / 4503599627370496 : Nat) - 1 + k + 52).toNat, by omega, by omega, by omega, hM _ (by omega), ?_⟩
  intro e Q he1 he2 hQ hQ2 w
  have hput := bit_put s (n % 4503599627370496) (Q + 1) (by omega) (by omega)
  have e1 : (((Q + 1) * 4503599627370496 : Nat) : Int) = (((Q : Int) - 1022) + 1023) * 4503599627370496 := by omega
  have e2 : (Q + 1) * 4503599627370496 + n % 4503599627370496 = Q * 4503599627370496 + (4503599627370496 + n % 4503599627370496) := by omega
  rw [e1, e2] at hput
  have hz : Q * 4503599627370496 + (4503599627370496 + n % 4503599627370496) < 9218868437227405312 := by omega
  have hone := mul_exact false s 4607182418800017408 _ _ (by omega) hz (Nat.le_of_lt hz) (by rw [M_1, Nat.mul_comm])
  rw [show W false 4607182418800017408 = 4607182418800017408 from rfl, Bool.false_xor] at hone
  exact ldexp71 _ _ e w (fun w => ldexp87 _ _ _ _ e k _ ((Q : Int) - 1022) w f1 f2 f3 hC he1 he2 (by omega) (by omega) (i64_exp s n (by omega)) (by omega) (by omega) (by omega) (by omega) (by omega) (bit_cut s n (by omega)) hput hone)
theorem ldexp_same (x : Nat) (e : Int) (w : World) (h : (zeroB x || pinfB (absN x)) = true) :
    Calls Try.prog 65 #[.float .f64 x, .int .i64 e] w fun e w' => e = .returned (.float .f64 x) ∧ w' = w :=
  ldexp71 _ _ e w fun w => ldexp87i x e w h

/-! A PRODUCT AND A SUM AT ONCE -/
theorem sum_W (s t : Bool) (m n : Nat) (i j : Int) (k : Nat) (hi : 0 ≤ i + 1074 + k) (hj : 0 ≤ j + 1074 + k) :
    ∃ mag : Nat, ∃ place : Int, 0 ≤ place + 1074 + k ∧ mag * 2 ^ (place + 1074 + k).toNat = (signed s m (i + 1074 + k).toNat + signed t n (j + 1074 + k).toNat).natAbs ∧
      (Datum.number s m i).sum (.number t n j) = some (.number (if signed s m (i + 1074 + k).toNat + signed t n (j + 1074 + k).toNat = 0 then s && t else decide (signed s m (i + 1074 + k).toNat + signed t n (j + 1074 + k).toNat < 0)) mag place) := by
  simp only [Datum.sum]
  obtain ⟨b, hb⟩ : ∃ b : Nat, min i j + 1074 + k = (b : Int) := ⟨(min i j + 1074 + k).toNat, by omega⟩
  have e1 : (i + 1074 + k).toNat = (i - min i j).toNat + b := by omega
  have e2 : (j + 1074 + k).toNat = (j - min i j).toNat + b := by omega
  have e3 : (min i j + 1074 + k).toNat = b := by omega
  rw [e1, e2, signed_scale, signed_scale, ← Int.add_mul]
  generalize signed s m (i - min i j).toNat + signed t n (j - min i j).toNat = x
  have hp : (0 : Int) < ((2 ^ b : Nat) : Int) := by have := Nat.two_pow_pos b; omega
  refine ⟨x.natAbs, min i j, by omega, ?_, ?_⟩
  · rw [e3, Int.natAbs_mul, Int.natAbs_natCast]
  · have hz : (x * ((2 ^ b : Nat) : Int) = 0) ↔ x = 0 := by
      constructor
      · intro h
        rcases Int.mul_eq_zero.1 h with h | h
        · exact h
        · omega
      · intro h; rw [h, Int.zero_mul]
    have hl : (x * ((2 ^ b : Nat) : Int) < 0) ↔ x < 0 := by
      constructor
      · intro h
        refine Int.lt_of_mul_lt_mul_right (a := ((2 ^ b : Nat) : Int)) ?_ (by omega)
        rw [Int.zero_mul]; exact h
      · intro h
        have := Int.mul_lt_mul_of_pos_right h hp
        rw [Int.zero_mul] at this; exact this
    simp only [hz, hl]

/-- the exact product and sum, in units of the least float's square -/
def fmaX (s t u : Bool) (a b c : Nat) : Int := (if s ^^ t then -((M a * M b : Nat) : Int) else ((M a * M b : Nat) : Int)) + val u c * (U : Int)
theorem fma_sign (s t u : Bool) (a b c : Nat) (ha : a < 9218868437227405312) (hb : b < 9218868437227405312) (hc : c < 9218868437227405312) (hX : fmaX s t u a b c = 0 ∨ U ≤ (fmaX s t u a b c).natAbs) :
    ∃ sg d, d ≤ 9218868437227405312 ∧ double.fma (W s a) (W t b) (W u c) = some (W sg d) ∧ posB (W sg d) = decide (0 < fmaX s t u a b c) ∧ negB (W sg d) = decide (fmaX s t u a b c < 0) := by
  have hE := E74_eq
  obtain ⟨mag, place, h1, h2, h3⟩ := sum_W (s ^^ t) u (mant a * mant b) (mant c) (-1074 + (ex a : Int) + (-1074 + (ex b : Int))) (-1074 + (ex c : Int)) E74 (mul_place a b) (by omega)
  have hx : signed (s ^^ t) (mant a * mant b) (-1074 + (ex a : Int) + (-1074 + (ex b : Int)) + 1074 + (E74 : Nat)).toNat + signed u (mant c) (-1074 + (ex c : Int) + 1074 + (E74 : Nat)).toNat = fmaX s t u a b c := by
    unfold fmaX
    rw [signed_val, mul_mag]
    congr 1
    have e : (-1074 + (ex c : Int) + 1074 + (E74 : Nat)).toNat = ex c + E74 := by omega
    rw [e, signed_scale, signed_val_fin]
    rfl
  rw [hx] at h2 h3
  obtain ⟨r, d, h4, h5, h6, h7⟩ := nearest_faithful (if fmaX s t u a b c = 0 then (s ^^ t) && u else decide (fmaX s t u a b c < 0)) mag place E74 h1
  rw [h2] at h4 h5 h7
  have hU := U_pos
  have hfma : double.fma (W s a) (W t b) (W u c) = some (W (if fmaX s t u a b c = 0 then (s ^^ t) && u else decide (fmaX s t u a b c < 0)) (min d 9218868437227405312)) := by
    unfold Format.fma
    rw [read_fin s a ha, read_fin t b hb, read_fin u c hc]
    simp only [Datum.product, Option.bind_some]
    rw [h3, Option.map_some]
    exact congrArg some h6
  refine ⟨_, min d 9218868437227405312, Nat.min_le_right .., hfma, ?_⟩
  rw [posB_W _ _ (Nat.min_le_right ..), negB_W _ _ (Nat.min_le_right ..)]
  clear h2 h3 hx hfma h6
  generalize fmaX s t u a b c = T at *
  by_cases hT : T = 0
  · subst hT
    have hr : r = 0 := by
      refine Nat.eq_zero_of_not_pos fun hp => ?_
      have h8 : 0 < M r * 2 ^ E74 := Nat.mul_pos (M_pos hp) (Nat.two_pow_pos _)
      rw [Int.natAbs_zero] at h4
      exact absurd h4 (Nat.not_le.2 h8)
    have hd : d = 0 := by
      subst hr
      rcases h7 with h | ⟨_, h⟩
      · exact h
      · exact absurd (by rw [M_zero, Nat.zero_mul]; rfl) h
    subst hd
    simp
  · have hr : 0 < r := by
      refine Nat.pos_of_ne_zero fun h0 => ?_
      subst h0
      rw [show 0 + 1 = 1 from rfl, M_one, Nat.one_mul] at h5
      have h9 : U ≤ T.natAbs := by omega
      exact absurd h5 (Nat.not_lt.2 h9)
    have hd : min d 9218868437227405312 ≠ 0 := by
      rcases h7 with h | ⟨h, _⟩ <;> omega
    rw [if_neg hT, decide_eq_true hd, Bool.and_true, Bool.and_true]
    refine ⟨?_, rfl⟩
    by_cases hn : T < 0
    · rw [decide_eq_true hn, decide_eq_false (by omega)]; rfl
    · rw [decide_eq_false hn, decide_eq_true (by omega)]; rfl
end Go.Proofs.Yteompnpfoplppaa
