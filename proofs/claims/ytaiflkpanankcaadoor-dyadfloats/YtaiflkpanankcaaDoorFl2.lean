import Derived.Test.YtaiflkpanankcaaDoorFl1
namespace Go.Proofs.YtaiflkpanankcaaDoor.Fl
open Ieee

theorem lt_log2 (n : Nat) : n < 2 ^ (n.log2 + 1) := Nat.lt_log2_self
theorem gap_min (n drop : Nat) : n / (1 <<< min drop (n.log2 + 2)) = n / 2 ^ drop ∧ (drop ≤ n.log2 + 2 ∨ (n / 2 ^ drop = 0 ∧ 2 * (n % (1 <<< min drop (n.log2 + 2))) < 1 <<< min drop (n.log2 + 2) ∧ n % 2 ^ drop = n ∧ 2 * n < 2 ^ drop)) := by
  rw [Nat.shiftLeft_eq, Nat.one_mul]
  by_cases h : drop ≤ n.log2 + 2
  · rw [Nat.min_eq_left h]
    exact ⟨rfl, Or.inl h⟩
  · rw [Nat.min_eq_right (by omega)]
    have h1 := lt_log2 n
    have h2 : (2 : Nat) ^ (n.log2 + 2) = 2 * 2 ^ (n.log2 + 1) := by rw [Nat.pow_succ (m := n.log2 + 1)]; omega
    have h3 : (2 : Nat) ^ (n.log2 + 2) ≤ 2 ^ drop := Nat.pow_le_pow_right (by omega) (by omega)
    have h4 : n / 2 ^ drop = 0 := Nat.div_eq_of_lt (by omega)
    refine ⟨by rw [h4]; exact Nat.div_eq_of_lt (by omega), Or.inr ⟨h4, ?_, Nat.mod_eq_of_lt (by omega), by omega⟩⟩
    rw [Nat.mod_eq_of_lt (by omega)]
    omega

/-- cut towards zero -/
theorem cut_zero (neg : Bool) (n drop : Nat) : Toward.zero.cut neg n drop = n / 2 ^ drop := by
  unfold Toward.cut
  simp only []
  rw [(gap_min n drop).1]
  simp

/-- to the nearest, of two the even one -/
def evenUp (low rest gap : Nat) : Bool := gap < 2 * rest || (gap == 2 * rest && low % 2 == 1)
theorem cut_even (neg : Bool) (n drop : Nat) : Toward.even.cut neg n drop = n / 2 ^ drop + (evenUp (n / 2 ^ drop) (n % 2 ^ drop) (2 ^ drop)).toNat := by
  unfold Toward.cut
  simp only []
  rw [(gap_min n drop).1]
  congr 2
  unfold evenUp
  rcases (gap_min n drop).2 with h | ⟨h1, h2, h3, h4⟩
  · rw [Nat.shiftLeft_eq, Nat.one_mul, Nat.min_eq_left h]
  · rw [h1, h3]
    have e1 : decide (1 <<< min drop (n.log2 + 2) < 2 * (n % (1 <<< min drop (n.log2 + 2)))) = false := decide_eq_false (by omega)
    have e2 : decide (2 ^ drop < 2 * n) = false := decide_eq_false (by omega)
    rw [e1, e2]
    simp

theorem cut_even_or (neg : Bool) (n drop : Nat) : Toward.even.cut neg n drop = n / 2 ^ drop ∨ (Toward.even.cut neg n drop = n / 2 ^ drop + 1 ∧ n % 2 ^ drop ≠ 0) := by
  rw [cut_even]
  cases h : evenUp (n / 2 ^ drop) (n % 2 ^ drop) (2 ^ drop)
  · left; rfl
  · right
    refine ⟨rfl, fun h0 => ?_⟩
    unfold evenUp at h
    rw [h0] at h
    simp at h

/-- THE NEAREST WORD: of what lies from the rung r on and below the next one, one of both; of what is the rung's own, it. 'k' places below the least one. -/
theorem nearest_faithful (neg : Bool) (mag : Nat) (place : Int) (k : Nat) (hk : 0 ≤ place + 1074 + k) :
    ∃ r c, M r * 2 ^ k ≤ mag * 2 ^ (place + 1074 + k).toNat ∧ mag * 2 ^ (place + 1074 + k).toNat < M (r + 1) * 2 ^ k ∧
      double.nearest neg mag place = W neg (min c 9218868437227405312) ∧ (c = r ∨ (c = r + 1 ∧ mag * 2 ^ (place + 1074 + k).toNat ≠ M r * 2 ^ k)) := by
  by_cases h0 : mag = 0
  · subst h0
    refine ⟨0, 0, by rw [M_zero]; simp, ?_, ?_, Or.inl rfl⟩
    · have : 0 < M (0 + 1) * 2 ^ k := Nat.mul_pos (M_pos (by omega)) (Nat.two_pow_pos _)
      omega
    · unfold Format.nearest
      rw [if_pos rfl, word_W, Nat.zero_min]
  unfold Format.nearest
  rw [if_neg h0, d_frac, d_least, d_binade, d_inf]
  simp only []
  obtain ⟨q, hq⟩ : ∃ q : Nat, max (place + (mag.log2 : Int) - (52 : Nat)) (-1074) = (q : Int) - 1074 := ⟨(max (place + (mag.log2 : Int) - (52 : Nat)) (-1074) + 1074).toNat, by omega⟩
  rw [hq]
  have e0 : ((q : Int) - 1074 - -1074).toNat = q := by omega
  rw [e0, Nat.shiftLeft_eq, word_W]
  generalize hn : mag * 2 ^ (place - ((q : Int) - 1074)).toNat = n
  generalize hd : ((q : Int) - 1074 - place).toNat = d
  -- the exact size, at the place k below: n at q, cut by d
  have hN : mag * 2 ^ (place + 1074 + k).toNat * 2 ^ d = n * 2 ^ (q + k) := by
    rw [← hn, Nat.mul_assoc, Nat.mul_assoc, ← Nat.pow_add, ← Nat.pow_add]
    congr 2
    omega
  have hlog := lt_log2 mag
  have hlog' := Nat.log2_self_le h0
  -- the floor
  have hf : (4503599627370496 ≤ n / 2 ^ d ∧ n / 2 ^ d + 1 ≤ 9007199254740992) ∨ (q = 0 ∧ n / 2 ^ d + 1 ≤ 9007199254740992) := by
    have hup : n / 2 ^ d < 9007199254740992 := by
      rw [Nat.div_lt_iff_lt_mul (Nat.two_pow_pos _)]
      have h1 : n < 2 ^ (mag.log2 + 1) * 2 ^ (place - ((q : Int) - 1074)).toNat := by
        rw [← hn]; exact Nat.mul_lt_mul_of_pos_right hlog (Nat.two_pow_pos _)
      rw [← Nat.pow_add] at h1
      refine Nat.lt_of_lt_of_le h1 ?_
      rw [show (9007199254740992 : Nat) = 2 ^ 53 from rfl, ← Nat.pow_add]
      exact Nat.pow_le_pow_right (by omega) (by omega)
    by_cases hq0 : q = 0
    · exact Or.inr ⟨hq0, by omega⟩
    · left
      refine ⟨?_, by omega⟩
      rw [Nat.le_div_iff_mul_le (Nat.two_pow_pos _), ← hn]
      refine Nat.le_trans ?_ (Nat.mul_le_mul_right _ hlog')
      rw [show (4503599627370496 : Nat) = 2 ^ 52 from rfl, ← Nat.pow_add, ← Nat.pow_add]
      exact Nat.pow_le_pow_right (by omega) (by omega)
  have hM0 : M (q * 4503599627370496 + n / 2 ^ d) = n / 2 ^ d * 2 ^ q := M_at _ _ (by omega)
  have hM1 : M (q * 4503599627370496 + n / 2 ^ d + 1) = (n / 2 ^ d + 1) * 2 ^ q := by
    rw [Nat.add_assoc]; exact M_at _ _ (by omega)
  have hpd := Nat.two_pow_pos d
  have hpq : 0 < 2 ^ (q + k) := Nat.two_pow_pos _
  refine ⟨q * 4503599627370496 + n / 2 ^ d, q * 4503599627370496 + Toward.even.cut neg n d, ?_, ?_, rfl, ?_⟩
  · rw [hM0]
    refine Nat.le_of_mul_le_mul_right (c := 2 ^ d) ?_ hpd
    rw [hN, Nat.mul_assoc (n / 2 ^ d), ← Nat.pow_add, Nat.mul_right_comm]
    exact Nat.mul_le_mul_right _ (Nat.div_mul_le_self n (2 ^ d))
  · rw [hM1]
    refine Nat.lt_of_mul_lt_mul_right (a := 2 ^ d) ?_
    rw [hN, Nat.mul_assoc (n / 2 ^ d + 1), ← Nat.pow_add, Nat.mul_right_comm]
    refine Nat.mul_lt_mul_of_pos_right ?_ hpq
    have := Nat.div_add_mod n (2 ^ d)
    have := Nat.mod_lt n hpd
    rw [Nat.add_mul, Nat.one_mul, Nat.mul_comm (n / 2 ^ d)]
    omega
  · rcases cut_even_or neg n d with h | ⟨h, hr⟩
    · left; rw [h]
    · right
      refine ⟨by rw [h]; omega, fun he => hr ?_⟩
      rw [hM0] at he
      have he' := congrArg (· * 2 ^ d) he
      rw [hN, Nat.mul_assoc (n / 2 ^ d), ← Nat.pow_add, Nat.mul_right_comm] at he'
      have h5 := Nat.eq_of_mul_eq_mul_right hpq he'
      have := Nat.div_add_mod n (2 ^ d)
      rw [Nat.mul_comm (2 ^ d)] at this
      omega

/-- what has a rung of its own is told by it -/
theorem nearest_exact (neg : Bool) (mag : Nat) (place : Int) (k r : Nat) (hk : 0 ≤ place + 1074 + k) (hr : r ≤ 9218868437227405312) (h : mag * 2 ^ (place + 1074 + k).toNat = M r * 2 ^ k) :
    double.nearest neg mag place = W neg r := by
  obtain ⟨r0, c, h1, h2, h3, h4⟩ := nearest_faithful neg mag place k hk
  rw [h] at h1 h2 h4
  have hp := Nat.two_pow_pos k
  have e1 : M r0 ≤ M r := Nat.le_of_mul_le_mul_right h1 hp
  have e2 : M r < M (r0 + 1) := Nat.lt_of_mul_lt_mul_right h2
  have e3 : r0 ≤ r := Nat.le_of_not_lt fun hlt => by have := M_lt hlt; omega
  have e4 : r < r0 + 1 := M_lt_iff.1 e2
  have e5 : r0 = r := by omega
  subst e5
  rcases h4 with h4 | h4
  · rw [h3, h4, Nat.min_eq_left hr]
  · exact absurd rfl h4.2

/-- numbers of at most 53 bits have rungs -/
theorem rep (j : Nat) : ∀ k : Nat, k ≤ 9007199254740992 → ∃ r, M r = k * 2 ^ j ∧ r ≤ (j + 2) * 4503599627370496 := by
  induction j with
  | zero =>
    intro k hk
    refine ⟨k, ?_, by omega⟩
    have := M_at 0 k (Or.inr ⟨rfl, hk⟩)
    rw [Nat.zero_mul, Nat.zero_add] at this
    exact this
  | succ j ih =>
    intro k hk
    by_cases h : k < 4503599627370496
    · obtain ⟨r, h1, h2⟩ := ih (2 * k) (by omega)
      refine ⟨r, ?_, Nat.le_trans h2 (Nat.mul_le_mul_right _ (by omega))⟩
      rw [h1, Nat.pow_succ, Nat.mul_comm (2 ^ j) 2, ← Nat.mul_assoc, Nat.mul_comm k 2]
    · exact ⟨(j + 1) * 4503599627370496 + k, M_at _ _ (Or.inl ⟨by omega, hk⟩), by omega⟩
end Go.Proofs.YtaiflkpanankcaaDoor.Fl
