import Derived.Test.YteompnpfoplppaaD12
namespace Go.Proofs.Yteompnpfoplppaa
open Go.RowKit
open Ieee
set_option linter.unusedVariables false

theorem sq_lt {a b : Nat} (h : a < b) : a * a < b * b := Nat.mul_lt_mul'' h h
theorem sq_le {a b : Nat} (h : a ≤ b) : a * a ≤ b * b := Nat.mul_le_mul h h
theorem of_sq_le {a b : Nat} (h : a * a ≤ b * b) : a ≤ b := Nat.le_of_not_lt fun hlt => by have := sq_lt hlt; omega
theorem of_sq_lt {a b : Nat} (h : a * a < b * b) : a < b := Nat.lt_of_not_le fun hle => by have := sq_le hle; omega

/-- digit by digit: the greatest number whose square is not above n -/
theorem rootFrom_spec (n : Nat) : ∀ todo root, root * root ≤ n → n < (root + 2 ^ todo) * (root + 2 ^ todo) → Datum.rootFrom n todo root * Datum.rootFrom n todo root ≤ n ∧ n < (Datum.rootFrom n todo root + 1) * (Datum.rootFrom n todo root + 1) := by
  intro todo
  induction todo with
  | zero =>
    intro root h1 h2
    exact ⟨h1, h2⟩
  | succ k ih =>
    intro root h1 h2
    unfold Datum.rootFrom
    simp only []
    rw [Nat.shiftLeft_eq, Nat.one_mul]
    by_cases h : (root + 2 ^ k) * (root + 2 ^ k) ≤ n
    · rw [if_pos h]
      refine ih _ h ?_
      rw [Nat.pow_succ, Nat.mul_two, ← Nat.add_assoc] at h2
      exact h2
    · rw [if_neg h]
      exact ih _ h1 (by omega)
theorem root_start (n : Nat) : n < (0 + 2 ^ (n.log2 / 2 + 1)) * (0 + 2 ^ (n.log2 / 2 + 1)) := by
  rw [Nat.zero_add, ← Nat.pow_add]
  refine Nat.lt_of_lt_of_le (lt_log2 n) (Nat.pow_le_pow_right (by omega) (by omega))
/-- the whole root -/
def isq (n : Nat) : Nat := Datum.rootFrom n (n.log2 / 2 + 1) 0
theorem isq_le (n : Nat) : isq n * isq n ≤ n := (rootFrom_spec n _ 0 (by omega) (root_start n)).1
theorem isq_lt (n : Nat) : n < (isq n + 1) * (isq n + 1) := (rootFrom_spec n _ 0 (by omega) (root_start n)).2
theorem le_isq {n k : Nat} : k ≤ isq n ↔ k * k ≤ n := by
  constructor
  · intro h
    exact Nat.le_trans (sq_le h) (isq_le n)
  · intro h
    have := isq_lt n
    have : k < isq n + 1 := of_sq_lt (by omega)
    omega
/-- twice the whole root, and one more where it is not the root -/
def rootN (n : Nat) : Nat := 2 * isq n + (isq n * isq n != n).toNat
theorem le_rootN {n k : Nat} : 2 * k ≤ rootN n ↔ k * k ≤ n := by
  unfold rootN
  have hb : (isq n * isq n != n).toNat ≤ 1 := Bool.toNat_le _
  rw [← le_isq]
  omega
theorem eq_rootN {n k : Nat} : 2 * k = rootN n ↔ k * k = n := by
  unfold rootN
  have hb : (isq n * isq n != n).toNat ≤ 1 := Bool.toNat_le _
  constructor
  · intro h
    have h1 : (isq n * isq n != n).toNat = 0 := by omega
    have h2 : k = isq n := by omega
    rw [h2]
    cases hx : (isq n * isq n != n)
    · simpa using hx
    · rw [hx] at h1; simp at h1
  · intro h
    have h1 : k ≤ isq n := le_isq.2 (by omega)
    have h2 : isq n ≤ k := of_sq_le (by have := isq_le n; omega)
    have h3 : isq n = k := by omega
    rw [h3, h]
    simp
theorem rootN_mono {x y : Nat} (h : x ≤ y) : rootN x ≤ rootN y := by
  have hx := isq_le x
  have h1 : isq x ≤ isq y := le_isq.2 (by omega)
  unfold rootN
  have hb : (isq x * isq x != x).toNat ≤ 1 := Bool.toNat_le _
  by_cases he : isq x = isq y
  · rw [he]
    cases hy : (isq y * isq y != y)
    · have hy' : isq y * isq y = y := by simpa using hy
      have : isq y * isq y = x := by rw [he] at hx; omega
      rw [this]
      simp
    · rw [Bool.toNat_true]
      have hb : (isq y * isq y != x).toNat ≤ 1 := Bool.toNat_le _
      omega
  · omega

/-- the parts of a root -/
theorem sqrt_parts (a : Nat) (ha : a < 9218868437227405312) (ha0 : 0 < a) :
    ∃ (n : Nat) (place : Int) (k e : Nat), (e : Int) = place + 1 + 1074 + k ∧ 1 ≤ e ∧ 2 ^ 54 ≤ rootN n ∧ n * (2 ^ e * 2 ^ e) = M a * U * (2 ^ k * 2 ^ k) ∧
      double.sqrt (W false a) = some (double.nearest false (rootN n) place) := by
  have hma : mant a ≠ 0 := by
    intro h
    have := M_pos ha0
    unfold M at this
    rw [h, Nat.zero_mul] at this
    omega
  have hla : (mant a).log2 < 53 := (Nat.log2_lt hma).2 (mant_lt a)
  have hb1 := Nat.log2_self_le hma
  have hE := E74_eq
  have hE5 := E5k_eq
  have hexa : ex a ≤ 2045 := by unfold ex; omega
  have hsq : double.sqrt (W false a) = some (double.nearest false (rootN (mant a * 2 ^ (2 * 54 - (mant a).log2 + (((-1074 + (ex a : Int)) - ((2 * 54 - (mant a).log2 : Nat) : Int)) % 2).toNat))) (((-1074 + (ex a : Int)) - ((2 * 54 - (mant a).log2 + (((-1074 + (ex a : Int)) - ((2 * 54 - (mant a).log2 : Nat) : Int)) % 2).toNat : Nat) : Int)) / 2 - 1)) := by
    unfold Format.sqrt
    rw [read_fin false a ha, d_frac]
    simp only [Datum.root]
    rw [if_neg hma, if_neg (by simp), Option.map_some, Nat.shiftLeft_eq]
    rfl
  generalize hmore : 2 * 54 - (mant a).log2 + (((-1074 + (ex a : Int)) - ((2 * 54 - (mant a).log2 : Nat) : Int)) % 2).toNat = more at *
  have hpar : ((-1074 + (ex a : Int)) - (more : Int)) % 2 = 0 := by omega
  have hmo : 108 ≤ (mant a).log2 + more := by omega
  have hmo2 : more ≤ 109 := by omega
  refine ⟨mant a * 2 ^ more, ((-1074 + (ex a : Int)) - (more : Int)) / 2 - 1, E5k, (((-1074 + (ex a : Int)) - (more : Int)) / 2 + 1074 + E5k).toNat, by omega, by omega, ?_, ?_, hsq⟩
  · have h1 : 2 ^ 53 * 2 ^ 53 ≤ mant a * 2 ^ more := by
      rw [← Nat.pow_add]
      refine Nat.le_trans ?_ (Nat.mul_le_mul_right _ hb1)
      rw [← Nat.pow_add]
      exact Nat.pow_le_pow_right (by omega) (by omega)
    have h2 := (le_rootN (n := mant a * 2 ^ more) (k := 2 ^ 53)).2 h1
    have : (2 : Nat) ^ 54 = 2 * 2 ^ 53 := rfl
    omega
  · unfold M U
    rw [Nat.mul_assoc, Nat.mul_assoc, Nat.mul_assoc, ← Nat.pow_add, ← Nat.pow_add, ← Nat.pow_add, ← Nat.pow_add, ← Nat.pow_add]
    have e : more + ((((-1074 + (ex a : Int)) - (more : Int)) / 2 + 1074 + E5k).toNat + (((-1074 + (ex a : Int)) - (more : Int)) / 2 + 1074 + E5k).toNat) = ex a + (E74 + (E5k + E5k)) := by omega
    rw [e]

theorem sqrt_faithful (a : Nat) (ha : a < 9218868437227405312) (ha0 : 0 < a) :
    ∃ r c, M r * 2 ≤ rootN (M a * U) ∧ rootN (M a * U) < M (r + 1) * 2 ∧ (c = r ∨ (c = r + 1 ∧ rootN (M a * U) ≠ M r * 2)) ∧ double.sqrt (W false a) = some (W false (min c 9218868437227405312)) := by
  obtain ⟨n, place, k, e, h1, h2, h3, h5, h6⟩ := sqrt_parts a ha ha0
  obtain ⟨r, c, kr, kr', g1, g2, g3, g4, g5, g6⟩ := marked_faithful false _ place k e h1 h2 h3
  have hk : 0 < 2 ^ k * 2 ^ k := Nat.mul_pos (Nat.two_pow_pos _) (Nat.two_pow_pos _)
  have he : 0 < 2 ^ e * 2 ^ e := Nat.mul_pos (Nat.two_pow_pos _) (Nat.two_pow_pos _)
  have key : ∀ q j, M q * 2 ^ k = j * 2 ^ e → M q * M q * (2 ^ k * 2 ^ k) = j * j * (2 ^ e * 2 ^ e) := by
    intro q j h
    rw [Nat.mul_mul_mul_comm, h, Nat.mul_mul_mul_comm]
  have k1 := key r kr g1
  have k2 := key (r + 1) kr' g2
  refine ⟨r, c, ?_, ?_, ?_, by rw [h6, g5]⟩
  · rw [Nat.mul_comm, le_rootN]
    refine Nat.le_of_mul_le_mul_right ?_ hk
    rw [k1, ← h5]
    exact Nat.mul_le_mul_right _ (le_rootN.1 g3)
  · refine Nat.lt_of_not_le fun hle => ?_
    rw [Nat.mul_comm, le_rootN] at hle
    have h7 := Nat.mul_le_mul_right (2 ^ k * 2 ^ k) hle
    rw [k2, ← h5] at h7
    have h8 := le_rootN.2 (Nat.le_of_mul_le_mul_right h7 he)
    omega
  · rcases g6 with g6 | ⟨g6, g7⟩
    · exact Or.inl g6
    · refine Or.inr ⟨g6, fun hz => g7 ?_⟩
      have h7 : M r * M r = M a * U := eq_rootN.1 (by rw [hz, Nat.mul_comm])
      have h8 : kr * kr * (2 ^ e * 2 ^ e) = n * (2 ^ e * 2 ^ e) := by rw [← k1, h7, h5]
      exact (eq_rootN.2 (Nat.eq_of_mul_eq_mul_right he h8)).symm
end Go.Proofs.Yteompnpfoplppaa
