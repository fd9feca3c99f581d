import Derived.Test.YteompnpfoplppaaD9
namespace Go.Proofs.Yteompnpfoplppaa
open Go.RowKit
open Ieee
set_option linter.unusedVariables false

/-- what is cut off and marked, held against whole numbers, stands as what was there -/
theorem sticky_le (x n k : Nat) (hn : 0 < n) : 2 * k ≤ 2 * (x / n) + (x % n != 0).toNat ↔ k * n ≤ x := by
  have hb : (x % n != 0).toNat ≤ 1 := Bool.toNat_le _
  rw [← Nat.le_div_iff_mul_le hn]
  omega
theorem sticky_eq (x n k : Nat) (hn : 0 < n) : 2 * k = 2 * (x / n) + (x % n != 0).toNat ↔ k * n = x := by
  have hb : (x % n != 0).toNat ≤ 1 := Bool.toNat_le _
  have hd := Nat.div_add_mod x n
  constructor
  · intro h
    have h1 : (x % n != 0).toNat = 0 := by omega
    have h2 : k = x / n := by omega
    have h3 : x % n = 0 := by
      cases hx : (x % n != 0)
      · simpa using hx
      · rw [hx] at h1; simp at h1
    rw [h2, Nat.mul_comm]
    omega
  · intro h
    have h1 : x / n = k := by rw [← h]; exact Nat.mul_div_cancel _ hn
    have h2 : x % n = 0 := by rw [← h]; exact Nat.mul_mod_left ..
    rw [h1, h2]
    rfl

/-- A QUOTIENT (or a root) THAT IS CUT OFF AND MARKED IS ROUNDED AS WHAT WAS THERE: Z of at least 54 digits, at the place e - 1; F the test of whole numbers -/
theorem marked_faithful (neg : Bool) (Z : Nat) (place : Int) (k e : Nat) (he : (e : Int) = place + 1 + 1074 + k) (he1 : 1 ≤ e) (hZ : 2 ^ 54 ≤ Z) :
    ∃ r c kr kr', M r * 2 ^ k = kr * 2 ^ e ∧ M (r + 1) * 2 ^ k = kr' * 2 ^ e ∧ 2 * kr ≤ Z ∧ Z < 2 * kr' ∧ double.nearest neg Z place = W neg (min c 9218868437227405312) ∧ (c = r ∨ (c = r + 1 ∧ Z ≠ 2 * kr)) := by
  obtain ⟨r, c, h1, h2, h3, h4⟩ := nearest_faithful neg Z place k (by omega)
  have e0 : (place + 1074 + k).toNat = e - 1 := by omega
  rw [e0] at h1 h2 h4
  have hp : 2 * 2 ^ (e - 1) = 2 ^ e := by rw [Nat.mul_comm, ← Nat.pow_succ]; congr 1; omega
  have hup : M (r + 1) ≤ 9007199254740992 * 2 ^ ex r := by
    rw [M_succ]
    unfold M
    have := mant_lt r
    calc mant r * 2 ^ ex r + 2 ^ ex r = (mant r + 1) * 2 ^ ex r := by rw [Nat.add_mul, Nat.one_mul]
      _ ≤ 9007199254740992 * 2 ^ ex r := Nat.mul_le_mul_right _ (by omega)
  have hlt : 2 ^ (53 + e) < 2 ^ (53 + (ex r + k)) := by
    calc 2 ^ (53 + e) = 2 ^ 53 * 2 ^ e := by rw [Nat.pow_add]
      _ = 2 ^ 53 * (2 * 2 ^ (e - 1)) := by rw [hp]
      _ = 2 ^ 54 * 2 ^ (e - 1) := by rw [← Nat.mul_assoc]
      _ ≤ Z * 2 ^ (e - 1) := Nat.mul_le_mul_right _ hZ
      _ < M (r + 1) * 2 ^ k := h2
      _ ≤ 9007199254740992 * 2 ^ ex r * 2 ^ k := Nat.mul_le_mul_right _ hup
      _ = 2 ^ (53 + (ex r + k)) := by rw [Nat.mul_assoc, ← Nat.pow_add, Nat.pow_add 2 53]
  have hq := (Nat.pow_lt_pow_iff_right (by omega : 1 < 2)).1 hlt
  obtain ⟨j, hj⟩ : ∃ j, ex r + k = e + j := ⟨ex r + k - e, by omega⟩
  have d1 : M r * 2 ^ k = mant r * 2 ^ j * 2 ^ e := by
    unfold M
    rw [Nat.mul_assoc, ← Nat.pow_add, hj, Nat.pow_add, Nat.mul_assoc, Nat.mul_comm (2 ^ j)]
  have d2 : M (r + 1) * 2 ^ k = (mant r + 1) * 2 ^ j * 2 ^ e := by
    rw [M_succ]
    unfold M
    rw [show mant r * 2 ^ ex r + 2 ^ ex r = (mant r + 1) * 2 ^ ex r from by rw [Nat.add_mul, Nat.one_mul], Nat.mul_assoc, ← Nat.pow_add, hj, Nat.pow_add, Nat.mul_assoc, Nat.mul_comm (2 ^ j)]
  have hpos := Nat.two_pow_pos (e - 1)
  refine ⟨r, c, mant r * 2 ^ j, (mant r + 1) * 2 ^ j, d1, d2, ?_, ?_, h3, ?_⟩
  · rw [d1, ← hp, ← Nat.mul_assoc] at h1
    have := Nat.le_of_mul_le_mul_right h1 hpos
    omega
  · rw [d2, ← hp, ← Nat.mul_assoc] at h2
    have := Nat.lt_of_mul_lt_mul_right h2
    omega
  · rcases h4 with h4 | ⟨h4, h5⟩
    · exact Or.inl h4
    · refine Or.inr ⟨h4, fun hz => h5 ?_⟩
      rw [hz, d1, ← hp, Nat.mul_comm 2, Nat.mul_assoc, Nat.mul_assoc]

def E5k : Nat := 5000
theorem E5k_eq : E5k = 5000 := rfl
/-- the parts of a quotient -/
theorem div_parts (s t : Bool) (a b : Nat) (ha : a < 9218868437227405312) (hb : b < 9218868437227405312) (ha0 : 0 < a) (hb0 : 0 < b) :
    ∃ (x : Nat) (place : Int) (k e : Nat), (e : Int) = place + 1 + 1074 + k ∧ 1 ≤ e ∧ 2 ^ 54 ≤ 2 * (x / mant b) + (x % mant b != 0).toNat ∧ 0 < mant b ∧ x * 2 ^ e * 2 ^ ex b = M a * U * 2 ^ k ∧
      double.div (W s a) (W t b) = some (double.nearest (s ^^ t) (2 * (x / mant b) + (x % mant b != 0).toNat) place) := by
  have hma : mant a ≠ 0 := by
    intro h
    have := M_pos ha0
    unfold M at this
    rw [h, Nat.zero_mul] at this
    omega
  have hmb : mant b ≠ 0 := by
    intro h
    have := M_pos hb0
    unfold M at this
    rw [h, Nat.zero_mul] at this
    omega
  have hla : (mant a).log2 < 53 := (Nat.log2_lt hma).2 (mant_lt a)
  have hb1 := Nat.log2_self_le hma
  have hb2 := lt_log2 (mant b)
  have hE := E74_eq
  have hE5 := E5k_eq
  have hexa : ex a ≤ 2045 := by unfold ex; omega
  have hexb : ex b ≤ 2045 := by unfold ex; omega
  refine ⟨mant a * 2 ^ (54 + (mant b).log2 - (mant a).log2), (-1074 + (ex a : Int)) - (-1074 + (ex b : Int)) - ((54 + (mant b).log2 - (mant a).log2 : Nat) : Int) - 1, E5k, (ex a + 1074 + E5k - ex b - (54 + (mant b).log2 - (mant a).log2)), ?_, ?_, ?_, by omega, ?_, ?_⟩
  · have hlb : (mant b).log2 < 53 := (Nat.log2_lt hmb).2 (mant_lt b)
    omega
  · have hlb : (mant b).log2 < 53 := (Nat.log2_lt hmb).2 (mant_lt b)
    omega
  · have h1 : 2 ^ 53 ≤ mant a * 2 ^ (54 + (mant b).log2 - (mant a).log2) / mant b := by
      rw [Nat.le_div_iff_mul_le (by omega)]
      calc 2 ^ 53 * mant b ≤ 2 ^ 53 * 2 ^ ((mant b).log2 + 1) := Nat.mul_le_mul_left _ (Nat.le_of_lt hb2)
        _ = 2 ^ (mant a).log2 * 2 ^ (54 + (mant b).log2 - (mant a).log2) := by
          rw [← Nat.pow_add, ← Nat.pow_add]; congr 1; omega
        _ ≤ mant a * 2 ^ (54 + (mant b).log2 - (mant a).log2) := Nat.mul_le_mul_right _ hb1
    generalize mant a * 2 ^ (54 + (mant b).log2 - (mant a).log2) / mant b = z at *
    have : (2 : Nat) ^ 54 = 2 * 2 ^ 53 := rfl
    omega
  · have hlb : (mant b).log2 < 53 := (Nat.log2_lt hmb).2 (mant_lt b)
    unfold M U
    rw [Nat.mul_assoc, Nat.mul_assoc, Nat.mul_assoc, Nat.mul_assoc, ← Nat.pow_add, ← Nat.pow_add, ← Nat.pow_add, ← Nat.pow_add]
    congr 2
    omega
  · unfold Format.div
    rw [read_fin s a ha, read_fin t b hb, d_frac]
    simp only [Datum.quotient]
    rw [if_neg hmb, Option.map_some, Nat.shiftLeft_eq]
    rfl

theorem div_faithful (s t : Bool) (a b : Nat) (ha : a < 9218868437227405312) (hb : b < 9218868437227405312) (hb0 : 0 < b) :
    ∃ r c, M r * M b ≤ M a * U ∧ M a * U < M (r + 1) * M b ∧ (c = r ∨ (c = r + 1 ∧ M a * U ≠ M r * M b)) ∧ double.div (W s a) (W t b) = some (W (s ^^ t) (min c 9218868437227405312)) := by
  by_cases ha0 : a = 0
  · subst ha0
    have hmb : mant b ≠ 0 := by
      intro h
      have := M_pos hb0
      unfold M at this
      rw [h, Nat.zero_mul] at this
      omega
    refine ⟨0, 0, by rw [M_zero, Nat.zero_mul]; omega, ?_, Or.inl rfl, ?_⟩
    · rw [M_zero, Nat.zero_mul]
      exact Nat.mul_pos (M_pos (by omega)) (M_pos hb0)
    · unfold Format.div
      rw [read_fin s 0 ha, read_fin t b hb]
      simp only [Datum.quotient]
      rw [if_neg hmb, Option.map_some]
      have e : mant 0 = 0 := rfl
      rw [e, Nat.zero_shiftLeft, Nat.zero_div, Nat.zero_mod, Nat.zero_min]
      refine congrArg some ?_
      show double.nearest (s ^^ t) 0 _ = _
      unfold Format.nearest
      rw [if_pos rfl, word_W]
  · obtain ⟨x, place, k, e, h1, h2, h3, h4, h5, h6⟩ := div_parts s t a b ha hb (by omega) hb0
    obtain ⟨r, c, kr, kr', g1, g2, g3, g4, g5, g6⟩ := marked_faithful (s ^^ t) _ place k e h1 h2 h3
    have hk := Nat.two_pow_pos k
    have he := Nat.two_pow_pos e
    have hx := Nat.two_pow_pos (ex b)
    have key : ∀ q, M q * M b * 2 ^ k = M q * 2 ^ k * mant b * 2 ^ ex b := by
      intro q
      conv => lhs; rw [show M b = mant b * 2 ^ ex b from rfl]
      rw [Nat.mul_right_comm, ← Nat.mul_assoc]
    refine ⟨r, c, ?_, ?_, ?_, by rw [h6, g5]⟩
    · refine Nat.le_of_mul_le_mul_right (c := 2 ^ k) ?_ hk
      rw [key, ← h5, g1]
      refine Nat.mul_le_mul_right _ ?_
      rw [Nat.mul_right_comm]
      exact Nat.mul_le_mul_right _ ((sticky_le x (mant b) kr h4).1 g3)
    · refine Nat.lt_of_mul_lt_mul_right (a := 2 ^ k) ?_
      rw [key, ← h5, g2]
      refine Nat.mul_lt_mul_of_pos_right ?_ hx
      rw [Nat.mul_right_comm]
      refine Nat.mul_lt_mul_of_pos_right ?_ he
      refine Nat.lt_of_not_le fun hle => ?_
      have := (sticky_le x (mant b) kr' h4).2 hle
      omega
    · rcases g6 with g6 | ⟨g6, g7⟩
      · exact Or.inl g6
      · refine Or.inr ⟨g6, fun hz => g7 ?_⟩
        have hz' := congrArg (· * 2 ^ k) hz
        rw [key, ← h5, g1] at hz'
        have h7 := Nat.eq_of_mul_eq_mul_right hx hz'
        rw [Nat.mul_right_comm] at h7
        have h8 := Nat.eq_of_mul_eq_mul_right he h7
        exact ((sticky_eq x (mant b) kr h4).2 h8.symm).symm
theorem div_tiny (s t : Bool) (a b : Nat) (ha : a < 9218868437227405312) (hb : b < 9218868437227405312) (ha0 : 0 < a) (hb0 : 0 < b) (h : 2 * (M a * U) < M b) : double.div (W s a) (W t b) = some (W (s ^^ t) 0) := by
  obtain ⟨x, place, k, e, h1, h2, h3, h4, h5, h6⟩ := div_parts s t a b ha hb ha0 hb0
  rw [h6]
  refine congrArg some (nearest_tiny _ _ _ k (by omega) ?_)
  have e0 : (place + 1074 + k).toNat = e - 1 := by omega
  have hp : 2 * 2 ^ (e - 1) = 2 ^ e := by rw [Nat.mul_comm, ← Nat.pow_succ]; congr 1; omega
  rw [e0]
  -- twice the quotient is below 2 to the power k - e
  have q1 : 2 * x * 2 ^ e < mant b * 2 ^ k := by
    refine Nat.lt_of_mul_lt_mul_right (a := 2 ^ ex b) ?_
    calc 2 * x * 2 ^ e * 2 ^ ex b = 2 * (x * 2 ^ e * 2 ^ ex b) := by rw [Nat.mul_assoc 2, Nat.mul_assoc 2]
      _ = 2 * (M a * U) * 2 ^ k := by rw [h5, Nat.mul_assoc 2]
      _ < M b * 2 ^ k := Nat.mul_lt_mul_of_pos_right h (Nat.two_pow_pos _)
      _ = mant b * 2 ^ k * 2 ^ ex b := by unfold M; rw [Nat.mul_right_comm]
  have q2 : e + 1 ≤ k := by
    refine Nat.le_of_not_lt fun hgt => ?_
    have q3 : 2 ^ k ≤ 2 ^ e := Nat.pow_le_pow_right (by omega) (by omega)
    have q4 : mant b ≤ x := by
      have hd : 0 < x / mant b := by
        refine Nat.pos_of_ne_zero fun h0 => ?_
        rw [h0] at h3
        have hb : (x % mant b != 0).toNat ≤ 1 := Bool.toNat_le _
        omega
      exact (Nat.div_pos_iff.1 hd).2
    have q5 : mant b * 2 ^ k ≤ x * 2 ^ e := Nat.mul_le_mul q4 q3
    rw [Nat.mul_assoc] at q1
    omega
  obtain ⟨j, hj⟩ : ∃ j, k = e + 1 + j := ⟨k - e - 1, by omega⟩
  have q6 : x < 2 ^ j * mant b := by
    have e1 : mant b * 2 ^ k = 2 * (2 ^ j * mant b) * 2 ^ e := by
      rw [hj, Nat.pow_add, Nat.pow_add, Nat.pow_one, Nat.mul_comm (2 ^ e) 2, ← Nat.mul_assoc, ← Nat.mul_assoc, Nat.mul_comm (mant b) 2, Nat.mul_right_comm (2 * mant b), Nat.mul_assoc 2, Nat.mul_comm (mant b)]
    rw [e1] at q1
    have := Nat.lt_of_mul_lt_mul_right q1
    omega
  have q7 : 2 * (x / mant b) + (x % mant b != 0).toNat < 2 * 2 ^ j := by
    refine Nat.lt_of_not_le fun hle => ?_
    have := (sticky_le x (mant b) (2 ^ j) h4).1 hle
    omega
  generalize 2 * (x / mant b) + (x % mant b != 0).toNat = Z at *
  calc 2 * (Z * 2 ^ (e - 1)) = Z * 2 ^ e := by rw [← hp, Nat.mul_left_comm]
    _ < 2 * 2 ^ j * 2 ^ e := Nat.mul_lt_mul_of_pos_right q7 (Nat.two_pow_pos _)
    _ = 2 ^ k := by rw [hj, Nat.pow_add, Nat.pow_add, Nat.pow_one, Nat.mul_comm (2 ^ e) 2, Nat.mul_right_comm]
end Go.Proofs.Yteompnpfoplppaa
