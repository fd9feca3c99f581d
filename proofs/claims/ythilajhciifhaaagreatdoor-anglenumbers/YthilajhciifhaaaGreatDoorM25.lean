import Derived.Laws.FloatArith
import Derived.Laws.Entries
import Derived.Laws.BitsAllLaws
import Derived.Test.YthilajhciifhaaaGreatDoorRows
import Derived.WalkKit
import Derived.WalkLawsBesides
import Derived.WalkSpells
import Derived.Laws.Externs
namespace Go.Proofs.YthilajhciifhaaaGreatDoor.Fl
open Ieee

/-- the word of a sign and a rung -/
def W (s : Bool) (r : Nat) : Nat := if s then 9223372036854775808 + r else r
/-- how many places above the least one the last digit of a rung stands -/
def ex (r : Nat) : Nat := r / 4503599627370496 - 1
def mant (r : Nat) : Nat := if r < 4503599627370496 then r else 4503599627370496 + r % 4503599627370496
/-- the size of a rung, in units of the least float -/
def M (r : Nat) : Nat := mant r * 2 ^ ex r

theorem M_at (q f : Nat) (h : (4503599627370496 ≤ f ∧ f ≤ 9007199254740992) ∨ (q = 0 ∧ f ≤ 9007199254740992)) : M (q * 4503599627370496 + f) = f * 2 ^ q := by
  unfold M mant ex
  by_cases h1 : f < 4503599627370496
  · have hq : q = 0 := by omega
    subst hq
    have : (0 * 4503599627370496 + f) / 4503599627370496 - 1 = 0 := by omega
    rw [this, if_pos (by omega)]
    simp
  · by_cases h2 : f < 9007199254740992
    · have e1 : (q * 4503599627370496 + f) / 4503599627370496 - 1 = q := by omega
      have e2 : 4503599627370496 + (q * 4503599627370496 + f) % 4503599627370496 = f := by omega
      rw [e1, if_neg (by omega), e2]
    · have h3 : f = 9007199254740992 := by omega
      subst h3
      have e1 : (q * 4503599627370496 + 9007199254740992) / 4503599627370496 - 1 = q + 1 := by omega
      have e2 : 4503599627370496 + (q * 4503599627370496 + 9007199254740992) % 4503599627370496 = 4503599627370496 := by omega
      rw [e1, if_neg (by omega), e2, Nat.pow_succ]
      omega

theorem rung_parts (r : Nat) : ∃ f, r = ex r * 4503599627370496 + f ∧ mant r = f ∧ ((4503599627370496 ≤ f ∧ f < 9007199254740992) ∨ (ex r = 0 ∧ f < 4503599627370496)) := by
  refine ⟨mant r, ?_, rfl, ?_⟩ <;> unfold mant ex <;> split <;> omega

theorem M_succ (r : Nat) : M (r + 1) = M r + 2 ^ ex r := by
  obtain ⟨f, hr, hm, hf⟩ := rung_parts r
  have h1 : M (r + 1) = (f + 1) * 2 ^ ex r := by
    have : r + 1 = ex r * 4503599627370496 + (f + 1) := by omega
    rw [this]
    exact M_at _ _ (by omega)
  rw [h1]
  unfold M
  rw [hm, Nat.add_mul, Nat.one_mul]

theorem M_lt_succ (r : Nat) : M r < M (r + 1) := by
  rw [M_succ]
  have := Nat.two_pow_pos (ex r)
  omega

theorem M_le_add (r k : Nat) : M r + k ≤ M (r + k) := by
  induction k with
  | zero => simp
  | succ n ih =>
    have h : M (r + n) < M (r + (n + 1)) := M_lt_succ (r + n)
    omega
theorem M_lt {a b : Nat} (h : a < b) : M a < M b := by
  have := M_le_add a (b - a)
  rw [show a + (b - a) = b from by omega] at this
  omega
theorem M_le {a b : Nat} (h : a ≤ b) : M a ≤ M b := by
  rcases Nat.lt_or_eq_of_le h with h | h
  · exact Nat.le_of_lt (M_lt h)
  · rw [h]; exact Nat.le_refl _
theorem M_lt_iff {a b : Nat} : M a < M b ↔ a < b :=
  ⟨fun h => Nat.lt_of_not_le fun h' => absurd (M_le h') (by omega), M_lt⟩
theorem M_inj {a b : Nat} (h : M a = M b) : a = b := by
  rcases Nat.lt_trichotomy a b with h' | h' | h'
  · have := M_lt h'; omega
  · exact h'
  · have := M_lt h'; omega
theorem M_zero : M 0 = 0 := rfl
theorem M_pos {r : Nat} (h : 0 < r) : 0 < M r := by
  have := M_lt h
  rw [M_zero] at this
  exact this

/-- the number of a word, in units of the least float; of an infinity what would come next -/
def val (s : Bool) (r : Nat) : Int := if s then -(M r : Int) else (M r : Int)

theorem word_W (s : Bool) (r : Nat) : double.word s r = W s r := by
  cases s <;> rfl

theorem W_lt (s : Bool) (r : Nat) (h : r < 9223372036854775808) : W s r < 18446744073709551616 := by
  cases s <;> simp only [W] <;> simp <;> omega

theorem W_sign (s : Bool) (r : Nat) (h : r < 9223372036854775808) : (W s r / 9223372036854775808 % 2 == 1) = s := by
  cases s
  · have : W false r / 9223372036854775808 % 2 = 0 := by unfold W; simp only [Bool.false_eq_true, if_false]; omega
    rw [this]; rfl
  · have : W true r / 9223372036854775808 % 2 = 1 := by unfold W; simp only [if_true]; omega
    rw [this]; rfl
theorem W_rung (s : Bool) (r : Nat) (h : r < 9223372036854775808) : W s r % 9223372036854775808 = r := by
  cases s
  · unfold W; simp only [Bool.false_eq_true, if_false]; omega
  · unfold W; simp only [if_true]; omega

theorem d_sign : double.signWeight = 9223372036854775808 := rfl
theorem d_binade : double.binade = 4503599627370496 := rfl
theorem d_inf : double.infRung = 9218868437227405312 := rfl
theorem d_least : double.leastPlace = -1074 := rfl
theorem d_frac : double.fractionBits = 52 := rfl

theorem read_fin (s : Bool) (r : Nat) (h : r < 9218868437227405312) : double.read (W s r) = .number s (mant r) (-1074 + (ex r : Int)) := by
  unfold Format.read
  rw [d_sign, d_binade, d_inf, d_least, W_sign s r (by omega), W_rung s r (by omega)]
  simp only []
  unfold mant ex
  by_cases h1 : r < 4503599627370496
  · rw [if_pos h1, if_pos h1]
    have : r / 4503599627370496 - 1 = 0 := by omega
    rw [this]; rfl
  · rw [if_neg h1, if_neg h1, if_pos h]
theorem read_inf (s : Bool) : double.read (W s 9218868437227405312) = .infinity s := by
  cases s <;> rfl
theorem read_nanW (s : Bool) (r : Nat) (h : r < 9223372036854775808) (hn : 9218868437227405312 < r) : double.read (W s r) = .nan s (r - 9218868437227405312) := by
  unfold Format.read
  rw [d_sign, d_binade, d_inf, d_least, W_sign s r (by omega), W_rung s r (by omega)]
  simp only []
  rw [if_neg (by omega), if_neg (by omega), if_neg (by omega)]

theorem signed_val (s : Bool) (m u : Nat) : signed s m u = (if s then -((m * 2 ^ u : Nat) : Int) else ((m * 2 ^ u : Nat) : Int)) := by
  unfold signed
  rw [Nat.shiftLeft_eq]

theorem signed_scale (s : Bool) (m u k : Nat) : signed s m (u + k) = signed s m u * ((2 ^ k : Nat) : Int) := by
  rw [signed_val, signed_val, Nat.pow_add, ← Nat.mul_assoc]
  cases s <;> simp [Int.neg_mul]

theorem signed_val_fin (s : Bool) (r : Nat) : signed s (mant r) (ex r) = val s r := by
  rw [signed_val]; rfl

/-- what stands at a common place, brought down to the least one -/
theorem signed_down (s : Bool) (r : Nat) (b : Nat) (h : b ≤ ex r) : signed s (mant r) (ex r - b) * ((2 ^ b : Nat) : Int) = val s r := by
  rw [← signed_scale, Nat.sub_add_cancel h, signed_val_fin]

theorem compare_scale (a b : Int) (k : Nat) (hk : 0 < k) : compare (a * (k : Int)) (b * (k : Int)) = compare a b := by
  have hk' : (0 : Int) < (k : Int) := by omega
  simp only [compare, compareOfLessAndEq]
  by_cases h1 : a < b
  · rw [if_pos h1, if_pos (Int.mul_lt_mul_of_pos_right h1 hk')]
  · rw [if_neg h1, if_neg (fun h => h1 (Int.lt_of_mul_lt_mul_right h (by omega)))]
    by_cases h2 : a = b
    · rw [if_pos h2, if_pos (by rw [h2])]
    · rw [if_neg h2, if_neg (fun h => h2 (Int.eq_of_mul_eq_mul_right (by omega) h))]

theorem order_fin (s t : Bool) (a b : Nat) (ha : a < 9218868437227405312) (hb : b < 9218868437227405312) : double.order (W s a) (W t b) = some (compare (val s a) (val t b)) := by
  unfold Format.order
  rw [read_fin s a ha, read_fin t b hb]
  simp only [Datum.order]
  congr 1
  rw [← signed_down s a (min (ex a) (ex b)) (Nat.min_le_left ..), ← signed_down t b (min (ex a) (ex b)) (Nat.min_le_right ..), compare_scale _ _ _ (Nat.two_pow_pos _)]
  congr 2 <;> omega

theorem compare_lt {a b : Int} (h : a < b) : compare a b = .lt := by
  simp only [compare, compareOfLessAndEq]; rw [if_pos h]
theorem compare_eq {a b : Int} (h : a = b) : compare a b = .eq := by
  subst h; simp [compare, compareOfLessAndEq]
theorem compare_gt {a b : Int} (h : b < a) : compare a b = .gt := by
  simp only [compare, compareOfLessAndEq]; rw [if_neg (by omega), if_neg (by omega)]

theorem order_W (s t : Bool) (a b : Nat) (ha : a ≤ 9218868437227405312) (hb : b ≤ 9218868437227405312) : double.order (W s a) (W t b) = some (compare (val s a) (val t b)) := by
  by_cases h1 : a < 9218868437227405312
  · by_cases h2 : b < 9218868437227405312
    · exact order_fin s t a b h1 h2
    · have hb' : b = 9218868437227405312 := by omega
      subst hb'
      unfold Format.order
      rw [read_fin s a h1, read_inf]
      simp only [Datum.order]
      congr 1
      have := M_lt h1
      cases t
      · exact (compare_lt (by unfold val; cases s <;> simp <;> omega)).symm
      · exact (compare_gt (by unfold val; cases s <;> simp <;> omega)).symm
  · have ha' : a = 9218868437227405312 := by omega
    subst ha'
    by_cases h2 : b < 9218868437227405312
    · unfold Format.order
      rw [read_fin t b h2, read_inf]
      simp only [Datum.order]
      congr 1
      have := M_lt h2
      cases s
      · exact (compare_gt (by unfold val; cases t <;> simp <;> omega)).symm
      · exact (compare_lt (by unfold val; cases t <;> simp <;> omega)).symm
    · have hb' : b = 9218868437227405312 := by omega
      subst hb'
      unfold Format.order
      rw [read_inf, read_inf]
      simp only [Datum.order]
      congr 1
      have := M_pos (r := 9218868437227405312) (by omega)
      cases s <;> cases t
      · exact (compare_eq rfl).symm
      · exact (compare_gt (by unfold val; simp; omega)).symm
      · exact (compare_lt (by unfold val; simp; omega)).symm
      · exact (compare_eq rfl).symm

theorem order_nan_left (s : Bool) (r : Nat) (y : Nat) (h : r < 9223372036854775808) (hn : 9218868437227405312 < r) : double.order (W s r) y = none := by
  unfold Format.order
  rw [read_nanW s r h hn]
  rfl
end Go.Proofs.YthilajhciifhaaaGreatDoor.Fl
namespace Go.Proofs.YthilajhciifhaaaGreatDoor.Fl
open Ieee

theorem lt_log2 (n : Nat) : n < 2 ^ (n.log2 + 1) := Nat.lt_log2_self
theorem gap_min (n drop : Nat) : n / (1 <<< min drop (n.log2 + 2)) = n / 2 ^ drop ∧ (drop ≤ n.log2 + 2 ∨ (n / 2 ^ drop = 0 ∧ 2 * (n % (1 <<< min drop (n.log2 + 2))) < 1 <<< min drop (n.log2 + 2) ∧ n % 2 ^ drop = n ∧ 2 * n < 2 ^ drop)) := by
  rw [Nat.shiftLeft_eq, Nat.one_mul]
  by_cases h : drop ≤ n.log2 + 2
  · rw [Nat.min_eq_left h]
    exact ⟨rfl, Or.inl h⟩
  · rw [Nat.min_eq_right (by omega)]
    have h1 := lt_log2 n
    have h2 : (2 : Nat) ^ (n.log2 + 2) = 2 * 2 ^ (n.log2 + 1) := by rw [Nat.pow_succ (m := n.log2 + 1)]; omega
    have h3 : (2 : Nat) ^ (n.log2 + 2) ≤ 2 ^ drop := Nat.pow_le_pow_right (by omega) (by omega)
    have h4 : n / 2 ^ drop = 0 := Nat.div_eq_of_lt (by omega)
    refine ⟨by rw [h4]; exact Nat.div_eq_of_lt (by omega), Or.inr ⟨h4, ?_, Nat.mod_eq_of_lt (by omega), by omega⟩⟩
    rw [Nat.mod_eq_of_lt (by omega)]
    omega

/-- to the nearest, of two the even one -/
def evenUp (low rest gap : Nat) : Bool := gap < 2 * rest || (gap == 2 * rest && low % 2 == 1)
theorem cut_even (neg : Bool) (n drop : Nat) : Toward.even.cut neg n drop = n / 2 ^ drop + (evenUp (n / 2 ^ drop) (n % 2 ^ drop) (2 ^ drop)).toNat := by
  unfold Toward.cut
  simp only []
  rw [(gap_min n drop).1]
  congr 2
  unfold evenUp
  rcases (gap_min n drop).2 with h | ⟨h1, h2, h3, h4⟩
  · rw [Nat.shiftLeft_eq, Nat.one_mul, Nat.min_eq_left h]
  · rw [h1, h3]
    have e1 : decide (1 <<< min drop (n.log2 + 2) < 2 * (n % (1 <<< min drop (n.log2 + 2)))) = false := decide_eq_false (by omega)
    have e2 : decide (2 ^ drop < 2 * n) = false := decide_eq_false (by omega)
    rw [e1, e2]
    simp

theorem cut_even_or (neg : Bool) (n drop : Nat) : Toward.even.cut neg n drop = n / 2 ^ drop ∨ (Toward.even.cut neg n drop = n / 2 ^ drop + 1 ∧ n % 2 ^ drop ≠ 0) := by
  rw [cut_even]
  cases h : evenUp (n / 2 ^ drop) (n % 2 ^ drop) (2 ^ drop)
  · left; rfl
  · right
    refine ⟨rfl, fun h0 => ?_⟩
    unfold evenUp at h
    rw [h0] at h
    simp at h

/-- THE NEAREST WORD: of what lies from the rung r on and below the next one, one of both; of what is the rung's own, it. 'k' places below the least one. -/
theorem nearest_faithful (neg : Bool) (mag : Nat) (place : Int) (k : Nat) (hk : 0 ≤ place + 1074 + k) :
    ∃ r c, M r * 2 ^ k ≤ mag * 2 ^ (place + 1074 + k).toNat ∧ mag * 2 ^ (place + 1074 + k).toNat < M (r + 1) * 2 ^ k ∧
      double.nearest neg mag place = W neg (min c 9218868437227405312) ∧ (c = r ∨ (c = r + 1 ∧ mag * 2 ^ (place + 1074 + k).toNat ≠ M r * 2 ^ k)) := by
  by_cases h0 : mag = 0
  · subst h0
    refine ⟨0, 0, by rw [M_zero]; simp, ?_, ?_, Or.inl rfl⟩
    · have : 0 < M (0 + 1) * 2 ^ k := Nat.mul_pos (M_pos (by omega)) (Nat.two_pow_pos _)
      omega
    · unfold Format.nearest
      rw [if_pos rfl, word_W, Nat.zero_min]
  unfold Format.nearest
  rw [if_neg h0, d_frac, d_least, d_binade, d_inf]
  simp only []
  obtain ⟨q, hq⟩ : ∃ q : Nat, max (place + (mag.log2 : Int) - (52 : Nat)) (-1074) = (q : Int) - 1074 := ⟨(max (place + (mag.log2 : Int) - (52 : Nat)) (-1074) + 1074).toNat, by omega⟩
  rw [hq]
  have e0 : ((q : Int) - 1074 - -1074).toNat = q := by omega
  rw [e0, Nat.shiftLeft_eq, word_W]
  generalize hn : mag * 2 ^ (place - ((q : Int) - 1074)).toNat = n
  generalize hd : ((q : Int) - 1074 - place).toNat = d
  -- the exact size, at the place k below: n at q, cut by d
  have hN : mag * 2 ^ (place + 1074 + k).toNat * 2 ^ d = n * 2 ^ (q + k) := by
    rw [← hn, Nat.mul_assoc, Nat.mul_assoc, ← Nat.pow_add, ← Nat.pow_add]
    congr 2
    omega
  have hlog := lt_log2 mag
  have hlog' := Nat.log2_self_le h0
  -- the floor
  have hf : (4503599627370496 ≤ n / 2 ^ d ∧ n / 2 ^ d + 1 ≤ 9007199254740992) ∨ (q = 0 ∧ n / 2 ^ d + 1 ≤ 9007199254740992) := by
    have hup : n / 2 ^ d < 9007199254740992 := by
      rw [Nat.div_lt_iff_lt_mul (Nat.two_pow_pos _)]
      have h1 : n < 2 ^ (mag.log2 + 1) * 2 ^ (place - ((q : Int) - 1074)).toNat := by
        rw [← hn]; exact Nat.mul_lt_mul_of_pos_right hlog (Nat.two_pow_pos _)
      rw [← Nat.pow_add] at h1
      refine Nat.lt_of_lt_of_le h1 ?_
      rw [show (9007199254740992 : Nat) = 2 ^ 53 from rfl, ← Nat.pow_add]
      exact Nat.pow_le_pow_right (by omega) (by omega)
    by_cases hq0 : q = 0
    · exact Or.inr ⟨hq0, by omega⟩
    · left
      refine ⟨?_, by omega⟩
      rw [Nat.le_div_iff_mul_le (Nat.two_pow_pos _), ← hn]
      refine Nat.le_trans ?_ (Nat.mul_le_mul_right _ hlog')
      rw [show (4503599627370496 : Nat) = 2 ^ 52 from rfl, ← Nat.pow_add, ← Nat.pow_add]
      exact Nat.pow_le_pow_right (by omega) (by omega)
  have hM0 : M (q * 4503599627370496 + n / 2 ^ d) = n / 2 ^ d * 2 ^ q := M_at _ _ (by omega)
  have hM1 : M (q * 4503599627370496 + n / 2 ^ d + 1) = (n / 2 ^ d + 1) * 2 ^ q := by
    rw [Nat.add_assoc]; exact M_at _ _ (by omega)
  have hpd := Nat.two_pow_pos d
  have hpq : 0 < 2 ^ (q + k) := Nat.two_pow_pos _
  refine ⟨q * 4503599627370496 + n / 2 ^ d, q * 4503599627370496 + Toward.even.cut neg n d, ?_, ?_, rfl, ?_⟩
  · rw [hM0]
    refine Nat.le_of_mul_le_mul_right (c := 2 ^ d) ?_ hpd
    rw [hN, Nat.mul_assoc (n / 2 ^ d), ← Nat.pow_add, Nat.mul_right_comm]
    exact Nat.mul_le_mul_right _ (Nat.div_mul_le_self n (2 ^ d))
  · rw [hM1]
    refine Nat.lt_of_mul_lt_mul_right (a := 2 ^ d) ?_
    rw [hN, Nat.mul_assoc (n / 2 ^ d + 1), ← Nat.pow_add, Nat.mul_right_comm]
    refine Nat.mul_lt_mul_of_pos_right ?_ hpq
    have := Nat.div_add_mod n (2 ^ d)
    have := Nat.mod_lt n hpd
    rw [Nat.add_mul, Nat.one_mul, Nat.mul_comm (n / 2 ^ d)]
    omega
  · rcases cut_even_or neg n d with h | ⟨h, hr⟩
    · left; rw [h]
    · right
      refine ⟨by rw [h]; omega, fun he => hr ?_⟩
      rw [hM0] at he
      have he' := congrArg (· * 2 ^ d) he
      rw [hN, Nat.mul_assoc (n / 2 ^ d), ← Nat.pow_add, Nat.mul_right_comm] at he'
      have h5 := Nat.eq_of_mul_eq_mul_right hpq he'
      have := Nat.div_add_mod n (2 ^ d)
      rw [Nat.mul_comm (2 ^ d)] at this
      omega

/-- what has a rung of its own is told by it -/
theorem nearest_exact (neg : Bool) (mag : Nat) (place : Int) (k r : Nat) (hk : 0 ≤ place + 1074 + k) (hr : r ≤ 9218868437227405312) (h : mag * 2 ^ (place + 1074 + k).toNat = M r * 2 ^ k) :
    double.nearest neg mag place = W neg r := by
  obtain ⟨r0, c, h1, h2, h3, h4⟩ := nearest_faithful neg mag place k hk
  rw [h] at h1 h2 h4
  have hp := Nat.two_pow_pos k
  have e1 : M r0 ≤ M r := Nat.le_of_mul_le_mul_right h1 hp
  have e2 : M r < M (r0 + 1) := Nat.lt_of_mul_lt_mul_right h2
  have e3 : r0 ≤ r := Nat.le_of_not_lt fun hlt => by have := M_lt hlt; omega
  have e4 : r < r0 + 1 := M_lt_iff.1 e2
  have e5 : r0 = r := by omega
  subst e5
  rcases h4 with h4 | h4
  · rw [h3, h4, Nat.min_eq_left hr]
  · exact absurd rfl h4.2

/-- numbers of at most 53 bits have rungs -/
theorem rep (j : Nat) : ∀ k : Nat, k ≤ 9007199254740992 → ∃ r, M r = k * 2 ^ j ∧ r ≤ (j + 2) * 4503599627370496 := by
  induction j with
  | zero =>
    intro k hk
    refine ⟨k, ?_, by omega⟩
    have := M_at 0 k (Or.inr ⟨rfl, hk⟩)
    rw [Nat.zero_mul, Nat.zero_add] at this
    exact this
  | succ j ih =>
    intro k hk
    by_cases h : k < 4503599627370496
    · obtain ⟨r, h1, h2⟩ := ih (2 * k) (by omega)
      refine ⟨r, ?_, Nat.le_trans h2 (Nat.mul_le_mul_right _ (by omega))⟩
      rw [h1, Nat.pow_succ, Nat.mul_comm (2 ^ j) 2, ← Nat.mul_assoc, Nat.mul_comm k 2]
    · exact ⟨(j + 1) * 4503599627370496 + k, M_at _ _ (Or.inl ⟨by omega, hk⟩), by omega⟩
end Go.Proofs.YthilajhciifhaaaGreatDoor.Fl
namespace Go.Proofs.YthilajhciifhaaaGreatDoor.Fl
open Ieee

/-- THE EXACT SUM, WRITTEN -/
theorem add_W (s t : Bool) (a b : Nat) (ha : a < 9218868437227405312) (hb : b < 9218868437227405312) :
    ∃ mag : Nat, ∃ place : Int, 0 ≤ place + 1074 ∧ mag * 2 ^ (place + 1074).toNat = (val s a + val t b).natAbs ∧
      double.add (W s a) (W t b) = some (double.nearest (if val s a + val t b = 0 then s && t else decide (val s a + val t b < 0)) mag place) := by
  unfold Format.add
  rw [read_fin s a ha, read_fin t b hb]
  simp only [Datum.sum, Option.map_some]
  have e1 : (-1074 + (ex a : Int) - min (-1074 + (ex a : Int)) (-1074 + (ex b : Int))).toNat = ex a - min (ex a) (ex b) := by omega
  have e2 : (-1074 + (ex b : Int) - min (-1074 + (ex a : Int)) (-1074 + (ex b : Int))).toNat = ex b - min (ex a) (ex b) := by omega
  have e3 : (min (-1074 + (ex a : Int)) (-1074 + (ex b : Int)) + 1074).toNat = min (ex a) (ex b) := by omega
  rw [e1, e2]
  have h1 := signed_down s a (min (ex a) (ex b)) (Nat.min_le_left ..)
  have h2 := signed_down t b (min (ex a) (ex b)) (Nat.min_le_right ..)
  generalize signed s (mant a) (ex a - min (ex a) (ex b)) = x at *
  generalize signed t (mant b) (ex b - min (ex a) (ex b)) = y at *
  have hp : (0 : Int) < ((2 ^ min (ex a) (ex b) : Nat) : Int) := by
    have := Nat.two_pow_pos (min (ex a) (ex b)); omega
  have h3 : (x + y) * ((2 ^ min (ex a) (ex b) : Nat) : Int) = val s a + val t b := by
    rw [Int.add_mul, h1, h2]
  · refine ⟨(x + y).natAbs, min (-1074 + (ex a : Int)) (-1074 + (ex b : Int)), by omega, ?_, ?_⟩
    · rw [e3, ← h3, Int.natAbs_mul, Int.natAbs_natCast]
    · congr 1
      have hz : (val s a + val t b = 0) ↔ (x + y = 0) := by
        rw [← h3]
        constructor
        · intro h
          rcases Int.mul_eq_zero.1 h with h | h
          · exact h
          · omega
        · intro h; rw [h, Int.zero_mul]
      have hl : (val s a + val t b < 0) ↔ (x + y < 0) := by
        rw [← h3]
        constructor
        · intro h
          refine Int.lt_of_mul_lt_mul_right (a := ((2 ^ min (ex a) (ex b) : Nat) : Int)) ?_ (by omega)
          rw [Int.zero_mul]; exact h
        · intro h
          have := Int.mul_lt_mul_of_pos_right h hp
          rw [Int.zero_mul] at this; exact this
      simp only [hz, hl]
      rfl

theorem add_exact (s t : Bool) (a b r : Nat) (ha : a < 9218868437227405312) (hb : b < 9218868437227405312) (hr : r ≤ 9218868437227405312) (h : (val s a + val t b).natAbs = M r) :
    double.add (W s a) (W t b) = some (W (if val s a + val t b = 0 then s && t else decide (val s a + val t b < 0)) r) := by
  obtain ⟨mag, place, h1, h2, h3⟩ := add_W s t a b ha hb
  rw [h3]
  congr 1
  refine nearest_exact _ _ _ 0 r (by omega) hr ?_
  have e : (place + 1074 + ((0 : Nat) : Int)).toNat = (place + 1074).toNat := by omega
  rw [Nat.pow_zero, Nat.mul_one, ← h, ← h2, e]

theorem sub_W (s t : Bool) (a b : Nat) (hb : b < 9218868437227405312) : double.sub (W s a) (W t b) = double.add (W s a) (W (!t) b) := by
  unfold Format.sub Format.add
  rw [read_fin t b hb, read_fin (!t) b hb]
  rfl
theorem val_not (t : Bool) (b : Nat) : val (!t) b = -val t b := by
  cases t <;> unfold val <;> simp
theorem sub_self (s : Bool) (a : Nat) (ha : a < 9218868437227405312) : double.sub (W s a) (W s a) = some 0 := by
  rw [sub_W s s a a ha, add_exact s (!s) a a 0 ha ha (by omega) (by rw [val_not, Int.add_right_neg, M_zero]; rfl), val_not, Int.add_right_neg, if_pos rfl]
  cases s <;> rfl

def E74 : Nat := 1074
theorem E74_eq : E74 = 1074 := rfl
/-- 1, in units of the least float -/
def U : Nat := 2 ^ E74
theorem U_pos : 0 < U := Nat.two_pow_pos _
/-- the rung of a whole number -/
def ofN (c : Nat) : Nat := double.nearest false c 0
theorem ofN_spec (c : Nat) (hc : c ≤ 9007199254740992) : M (ofN c) = c * U ∧ ofN c < 9218868437227405312 ∧ ∀ s, double.nearest s c 0 = W s (ofN c) := by
  have hE := E74_eq
  obtain ⟨r, h1, h2⟩ := rep E74 c hc
  have h2' : r ≤ 4845873199050653696 := h2
  clear h2
  have e : ((0 : Int) + 1074 + ((0 : Nat) : Int)).toNat = E74 := rfl
  have h3 : ∀ s, double.nearest s c 0 = W s r := fun s =>
    nearest_exact s c 0 0 r (by decide) (by omega) (by
      rw [h1, Nat.pow_zero, Nat.mul_one, e])
  have h4 : ofN c = r := h3 false
  rw [h4]
  exact ⟨h1, by omega, h3⟩

theorem floatOfInt_W (n : Int) (h : n.natAbs ≤ 9007199254740992) : floatOfInt .f64 n = W (decide (n < 0)) (ofN n.natAbs) :=
  (ofN_spec n.natAbs h).2.2 _

end Go.Proofs.YthilajhciifhaaaGreatDoor.Fl
namespace Go.Proofs.YthilajhciifhaaaGreatDoor.Fl
open Ieee

theorem f64_format : FloatKind.f64.format = Ieee.double := rfl
/-- a float held against itself: is it a NaN? -/
def nanB (x : Nat) : Bool := (FloatKind.f64.format.order x x != some .eq)
def absN (x : Nat) : Nat := (bits BinOp.andNot IntKind.u64 x 9223372036854775808).toNat
def pinfB (x : Nat) : Bool := FloatKind.f64.format.order x 9218868437227405311 == some .gt
def zeroB (x : Nat) : Bool := FloatKind.f64.format.order x 0 == some .eq
theorem abs_W (s : Bool) (r : Nat) (h : r < 9223372036854775808) : absN (W s r) = r := by
  unfold absN
  have h1 := u64_andNot_nat (W s r) 9223372036854775808 (W_lt s r h) (by omega)
  rw [show ((9223372036854775808 : Int)) = ((9223372036854775808 : Nat) : Int) from rfl, h1, Int.toNat_natCast]
  have h2 := Nat.and_two_pow_sub_one_eq_mod (W s r) 63
  rw [show (18446744073709551615 - 9223372036854775808 : Nat) = 2 ^ 63 - 1 from rfl, h2]
  exact W_rung s r h

theorem nanB_W (s : Bool) (r : Nat) (h : r < 9223372036854775808) : nanB (W s r) = decide (9218868437227405312 < r) := by
  unfold nanB
  rw [f64_format]
  by_cases hn : 9218868437227405312 < r
  · rw [order_nan_left s r _ h hn, decide_eq_true hn]; rfl
  · rw [order_W s s r r (by omega) (by omega), compare_eq rfl, decide_eq_false hn]; rfl

theorem zero_is : (0 : Nat) = W false 0 := rfl
theorem val_zero (s : Bool) : val s 0 = 0 := by cases s <;> rfl
theorem zeroB_W (s : Bool) (r : Nat) (h : r ≤ 9218868437227405312) : zeroB (W s r) = decide (r = 0) := by
  unfold zeroB
  rw [f64_format]
  conv => lhs; rw [zero_is]
  rw [order_W s false r 0 h (by omega), val_zero]
  by_cases hr : r = 0
  · subst hr; rw [val_zero]; rfl
  · have := M_pos (r := r) (by omega)
    rw [decide_eq_false hr]
    cases s
    · rw [compare_gt (by unfold val; simp; omega)]; rfl
    · rw [compare_lt (by unfold val; simp; omega)]; rfl
theorem pinfB_W (s : Bool) (r : Nat) (h : r ≤ 9218868437227405312) : pinfB (W s r) = (!s && decide (r = 9218868437227405312)) := by
  unfold pinfB
  rw [f64_format]
  have e : (9218868437227405311 : Nat) = W false 9218868437227405311 := rfl
  conv => lhs; rw [e]
  rw [order_W s false r _ h (by omega)]
  by_cases hr : r = 9218868437227405312
  · have := M_lt (show 9218868437227405311 < r by omega)
    rw [decide_eq_true hr]
    cases s
    · rw [compare_gt (by unfold val; simp; omega)]; rfl
    · rw [compare_lt (by unfold val; simp; omega)]; rfl
  · have := M_le (show r ≤ 9218868437227405311 by omega)
    rw [decide_eq_false hr, Bool.and_false]
    rcases Int.lt_trichotomy (val s r) (val false 9218868437227405311) with h1 | h1 | h1
    · rw [compare_lt h1]; rfl
    · rw [compare_eq h1]; rfl
    · unfold val at h1
      cases s
      · simp at h1; omega
      · simp at h1; omega
end Go.Proofs.YthilajhciifhaaaGreatDoor.Fl
namespace Go.Proofs.YthilajhciifhaaaGreatDoor.Fl
open Go.RowKit

theorem bits14 (x : Nat) (w : World) : (callFunc 94 #[.float .f64 x]).run Tryz.prog w = .ok (.value (.int .u64 x)) w := by
  kernel_rfl
theorem from13 (x : Int) (w : World) : (callFunc 93 #[.int .u64 x]).run Tryz.prog w = .ok (.value (.float .f64 x.toNat)) w := by
  kernel_rfl
theorem nan11 (x : Nat) (w : World) : Calls Tryz.prog 56 #[.float .f64 x] w fun e w' => e = .returned (.bool (nanB x)) ∧ w' = w := by
  go_enter Tryz.func56, Tryz.ntmps56
  go_wp2
  go_ret
  exact ⟨rfl, rfl⟩
theorem abs16 (x : Nat) (w : World) : Calls Tryz.prog 58 #[.float .f64 x] w fun e w' => e = .returned (.float .f64 (absN x)) ∧ w' = w := by
  have h1 := bits14
  have h2 := from13
  go_enter Tryz.func58, Tryz.ntmps58
  go_wp2
  go_ret
  exact ⟨rfl, rfl⟩
theorem inf12z (x : Nat) (w : World) : Calls Tryz.prog 52 #[.float .f64 x, .int .i64 0] w fun e w' => e = .returned (.bool (pinfB (absN x))) ∧ w' = w := by
  go_enter Tryz.func52, Tryz.ntmps52
  go_wp2_with (go_at_call 58; refine (abs16 _ _).mono ?_; rintro e w' ⟨rfl, rfl⟩)
  go_ret
  exact ⟨rfl, rfl⟩
end Go.Proofs.YthilajhciifhaaaGreatDoor.Fl
namespace Go.Proofs.YthilajhciifhaaaGreatDoor.Fl
open Go.RowKit
open Ieee
set_option linter.unusedVariables false

theorem B_lt (s t : Bool) (a b : Nat) (ha : a ≤ 9218868437227405312) (hb : b ≤ 9218868437227405312) : (FloatKind.f64.format.order (W s a) (W t b) == some .lt) = decide (val s a < val t b) := by
  rw [f64_format, order_W s t a b ha hb]
  rcases Int.lt_trichotomy (val s a) (val t b) with h | h | h
  · rw [compare_lt h, decide_eq_true h]; rfl
  · rw [compare_eq h, decide_eq_false (by omega)]; rfl
  · rw [compare_gt h, decide_eq_false (by omega)]; rfl
theorem mul_W (s t : Bool) (a b : Nat) (ha : a < 9218868437227405312) (hb : b < 9218868437227405312) :
    double.mul (W s a) (W t b) = some (double.nearest (s ^^ t) (mant a * mant b) (-1074 + (ex a : Int) + (-1074 + (ex b : Int)))) := by
  unfold Format.mul
  rw [read_fin s a ha, read_fin t b hb]
  rfl
theorem mul_mag (a b : Nat) : mant a * mant b * 2 ^ (-1074 + (ex a : Int) + (-1074 + (ex b : Int)) + 1074 + (E74 : Nat)).toNat = M a * M b := by
  have e : (-1074 + (ex a : Int) + (-1074 + (ex b : Int)) + 1074 + (E74 : Nat)).toNat = ex a + ex b := by
    have := E74_eq
    omega
  rw [e]
  unfold M
  rw [Nat.pow_add]
  exact Nat.mul_mul_mul_comm ..
theorem mul_place (a b : Nat) : (0 : Int) ≤ -1074 + (ex a : Int) + (-1074 + (ex b : Int)) + 1074 + (E74 : Nat) := by
  have := E74_eq
  omega
theorem mul_exact (s t : Bool) (a b r : Nat) (ha : a < 9218868437227405312) (hb : b < 9218868437227405312) (hr : r ≤ 9218868437227405312) (h : M a * M b = M r * U) :
    double.mul (W s a) (W t b) = some (W (s ^^ t) r) := by
  rw [mul_W s t a b ha hb]
  refine congrArg some (nearest_exact _ _ _ E74 r (mul_place a b) hr ?_)
  rw [mul_mag]
  exact h
theorem mul_run (w : World) (x y r : Nat) (h : double.mul x y = some r) : (binOp .mul 36 (.float .f64 x) (.float .f64 y)).run Tryz.prog w = .ok (.float .f64 r) w :=
  run_float_arith (P := Tryz.prog) w .mul 36 .f64 x y r h

/-! BITS -/
theorem W_eq (s : Bool) (r : Nat) : W s r = s.toNat * 2 ^ 63 + r := by
  cases s
  · show r = _; simp
  · show 9223372036854775808 + r = _; simp
theorem bit_cut (s : Bool) (n : Nat) (h : n < 9223372036854775808) : bits BinOp.andNot IntKind.u64 (W s n : Nat) 9218868437227405312 = ((W s (n % 4503599627370496) : Nat) : Int) := by
  have hl := W_lt s n h
  rw [show (9218868437227405312 : Int) = ((9218868437227405312 : Nat) : Int) from rfl, u64_andNot_nat _ _ hl (by omega)]
  congr 1
  have e1 : (18446744073709551615 - 9218868437227405312 : Nat) = 2 ^ 63 ||| (2 ^ 52 - 1) := by decide
  rw [e1, Nat.and_or_distrib_left, Nat.and_two_pow_sub_one_eq_mod]
  have e2 : W s n &&& 2 ^ 63 = s.toNat * 2 ^ 63 := by
    apply Nat.eq_of_testBit_eq
    intro i
    rw [Nat.testBit_and, Nat.testBit_two_pow, W_eq]
    by_cases hi : 63 = i
    · subst hi
      rw [decide_eq_true rfl, Bool.and_true]
      cases s
      · simp only [Bool.toNat_false, Nat.zero_mul, Nat.zero_add, Nat.zero_testBit]
        exact Nat.testBit_lt_two_pow h
      · simp only [Bool.toNat_true, Nat.one_mul]
        rw [Nat.testBit_two_pow_add_eq, Nat.testBit_lt_two_pow h, Nat.testBit_two_pow_self]
        rfl
    · rw [decide_eq_false hi, Bool.and_false]
      cases s
      · simp
      · simp only [Bool.toNat_true, Nat.one_mul]
        rw [Nat.testBit_two_pow, decide_eq_false hi]
  have e3 : W s n % 2 ^ 52 = n % 4503599627370496 := by
    rw [W_eq]; cases s <;> simp <;> omega
  rw [e2, e3]
  cases s
  · simp [W]
  · simp only [Bool.toNat_true, Nat.one_mul]
    have h6 := Nat.two_pow_add_eq_or_of_lt (i := 63) (b := n % 4503599627370496) (by omega) 1
    rw [Nat.mul_one] at h6
    rw [← h6]
    rfl
theorem bit_put (s : Bool) (y E : Nat) (hy : y < 4503599627370496) (hE : E < 2048) : bits BinOp.or IntKind.u64 (W s y : Nat) ((E * 4503599627370496 : Nat) : Int) = ((W s (E * 4503599627370496 + y) : Nat) : Int) := by
  have hl := W_lt s y (by omega)
  rw [u64_or_nat _ _ hl (by omega)]
  congr 1
  have e1 : E * 4503599627370496 = E <<< 52 := by rw [Nat.shiftLeft_eq]
  have e2 : W s y = (s.toNat * 2048) <<< 52 ||| y := by
    rw [← Nat.shiftLeft_add_eq_or_of_lt (i := 52) (by omega), Nat.shiftLeft_eq, W_eq]
    cases s <;> simp
  have e3 : s.toNat * 2048 ||| E = s.toNat * 2048 + E := by
    cases s
    · simp
    · simp only [Bool.toNat_true, Nat.one_mul]
      exact (Nat.two_pow_add_eq_or_of_lt (i := 11) (by omega) 1).symm ▸ rfl
  rw [e1, e2, Nat.or_assoc, Nat.or_comm y, ← Nat.or_assoc, ← Nat.shiftLeft_or_distrib, e3, ← Nat.shiftLeft_add_eq_or_of_lt (i := 52) (by omega), Nat.shiftLeft_eq, W_eq, Nat.shiftLeft_eq, Nat.add_mul, Nat.mul_assoc, Nat.add_assoc]
end Go.Proofs.YthilajhciifhaaaGreatDoor.Fl
namespace Go.Proofs.YthilajhciifhaaaGreatDoor.Fl
open Go.RowKit
open Ieee
set_option linter.unusedVariables false

theorem norm90s (x r : Nat) (w : World) (h : (FloatKind.f64.format.order (absN x) 4503599627370496 == some .lt) = true) (hm : double.mul x 4841369599423283200 = some r) :
    Calls Tryz.prog 138 #[.float .f64 x] w fun e w' => e = .returned (.tuple #[.float .f64 r, .int .i64 (-52)]) ∧ w' = w := by
  have g3 := mul_run w _ _ _ hm
  clear hm
  go_enter Tryz.func138, Tryz.ntmps138
  go_wp2_with (go_at_call 58; refine (abs16 _ _).mono ?_; rintro e w' ⟨rfl, rfl⟩)
  go_ret2
  exact ⟨rfl, rfl⟩
theorem norm90n (x : Nat) (w : World) (h : (FloatKind.f64.format.order (absN x) 4503599627370496 == some .lt) = false) :
    Calls Tryz.prog 138 #[.float .f64 x] w fun e w' => e = .returned (.tuple #[.float .f64 x, .int .i64 0]) ∧ w' = w := by
  go_enter Tryz.func138, Tryz.ntmps138
  go_wp2_with (go_at_call 58; refine (abs16 _ _).mono ?_; rintro e w' ⟨rfl, rfl⟩)
  go_ret2
  exact ⟨rfl, rfl⟩

theorem M_52 : M 4841369599423283200 = 4503599627370496 * U := by
  have h := M_at E74 4503599627370496 (Or.inl ⟨by omega, by omega⟩)
  have e : E74 * 4503599627370496 + 4503599627370496 = 4841369599423283200 := rfl
  rw [e] at h
  unfold U
  exact h

/-- a float that is not 0, its first digit at the front: m times 2 to the power (P - 52), in units of the least float -/
theorem norm_spec (s : Bool) (r : Nat) (h0 : 0 < r) (hr : r < 9218868437227405312) :
    ∃ n, ∃ k : Int, 4503599627370496 ≤ n ∧ n < 9218868437227405312 ∧ (k = 0 ∨ k = -52) ∧
      (∀ P : Nat, (P : Int) = (n / 4503599627370496 : Nat) - 1 + k + 52 → M r * 2 ^ 52 = (4503599627370496 + n % 4503599627370496) * 2 ^ P) ∧
      ∀ w, Calls Tryz.prog 138 #[.float .f64 (W s r)] w fun e w' => e = .returned (.tuple #[.float .f64 (W s n), .int .i64 k]) ∧ w' = w := by
  have habs := B_lt false false r 4503599627370496 (by omega) (by omega)
  rw [show W false r = absN (W s r) from (abs_W s r (by omega)).symm, show W false 4503599627370496 = 4503599627370496 from rfl] at habs
  have hv : (val false r < val false 4503599627370496) ↔ r < 4503599627370496 := by
    unfold val
    simp only [Bool.false_eq_true, if_false]
    rw [Int.ofNat_lt]
    exact M_lt_iff
  by_cases hs : r < 4503599627370496
  · rw [decide_eq_true (hv.2 hs)] at habs
    obtain ⟨n, hn, hn2⟩ := rep 52 r (by omega)
    have hMr : M r = r := by
      have := M_at 0 r (Or.inr ⟨rfl, by omega⟩)
      rw [Nat.zero_mul, Nat.zero_add] at this
      rw [this]; simp
    have hnI : n < 9218868437227405312 := by omega
    have hnB : 4503599627370496 ≤ n := by
      refine Nat.le_of_not_lt fun hlt => ?_
      have hMn : M n = n := by
        have := M_at 0 n (Or.inr ⟨rfl, by omega⟩)
        rw [Nat.zero_mul, Nat.zero_add] at this
        rw [this]; simp
      rw [hMn] at hn
      have : (2 : Nat) ^ 52 = 4503599627370496 := rfl
      rw [this] at hn
      omega
    refine ⟨n, -52, hnB, hnI, Or.inr rfl, ?_, fun w => norm90s _ _ w habs ?_⟩
    · intro P hP
      have hP' : P = ex n := by unfold ex; omega
      rw [hMr, ← hn, hP']
      unfold M mant
      rw [if_neg (by omega)]
    · have hx := mul_exact s false r 4841369599423283200 n hr (by omega) (by omega) (by
        rw [hMr, M_52, hn, ← Nat.mul_assoc])
      rw [Bool.xor_false] at hx
      exact hx
  · rw [decide_eq_false (fun h => hs (hv.1 h))] at habs
    refine ⟨r, 0, by omega, hr, Or.inl rfl, ?_, fun w => norm90n _ w habs⟩
    intro P hP
    have hP' : P = ex r + 52 := by unfold ex; omega
    rw [hP', Nat.pow_add, ← Nat.mul_assoc]
    congr 1
    unfold M mant
    rw [if_neg (by omega)]

theorem fin_facts (s : Bool) (r : Nat) (h0 : 0 < r) (hr : r < 9218868437227405312) : zeroB (W s r) = false ∧ pinfB (absN (W s r)) = false ∧ nanB (W s r) = false := by
  refine ⟨?_, ?_, ?_⟩
  · rw [zeroB_W s r (by omega)]; exact decide_eq_false (by omega)
  · rw [abs_W s r (by omega)]
    have := pinfB_W false r (by omega)
    rw [show W false r = r from rfl] at this
    rw [this, decide_eq_false (by omega)]; rfl
  · rw [nanB_W s r (by omega)]; exact decide_eq_false (by omega)

theorem ldexp87i (x : Nat) (e : Int) (w : World) (h : (zeroB x || pinfB (absN x)) = true) :
    Calls Tryz.prog 91 #[.float .f64 x, .int .i64 e] w fun e w' => e = .returned (.float .f64 x) ∧ w' = w := by
  unfold zeroB at h
  cases h0 : (FloatKind.f64.format.order x 0 == some .eq)
  · rw [h0, Bool.false_or] at h
    go_enter Tryz.func91, Tryz.ntmps91
    go_wp2_with (first | (go_at_call 52; refine (inf12z _ _).mono ?_; rintro e w' ⟨rfl, rfl⟩) | (go_at_call 56; refine (nan11 _ _).mono ?_; rintro e w' ⟨rfl, rfl⟩))
    go_ret
    exact ⟨rfl, rfl⟩
  · clear h
    go_enter Tryz.func91, Tryz.ntmps91
    go_wp2_with (first | (go_at_call 52; refine (inf12z _ _).mono ?_; rintro e w' ⟨rfl, rfl⟩) | (go_at_call 56; refine (nan11 _ _).mono ?_; rintro e w' ⟨rfl, rfl⟩))
    go_ret
    exact ⟨rfl, rfl⟩
theorem ldexp87 (x f z y : Nat) (e k E S : Int) (w : World) (h0 : zeroB x = false) (h1 : pinfB (absN x) = false) (h2 : nanB x = false)
    (hn : ∀ w, Calls Tryz.prog 138 #[.float .f64 x] w fun e w' => e = .returned (.tuple #[.float .f64 f, .int .i64 k]) ∧ w' = w) (he1 : -5000 ≤ e) (he2 : e ≤ 5000) (hk1 : -52 ≤ k) (hk2 : k ≤ 0)
    (hE : bits BinOp.and IntKind.i64 (wrap64 (↑f / 4503599627370496)) 2047 = E) (hE1 : 0 ≤ E) (hE2 : E ≤ 2047) (hS : e + k + (E - 1023) = S) (hS1 : -1022 ≤ S) (hS2 : S ≤ 1023)
    (hc : bits BinOp.andNot IntKind.u64 (f : Int) 9218868437227405312 = (y : Int)) (hp : bits BinOp.or IntKind.u64 (y : Int) ((S + 1023) * 4503599627370496) = (z : Int)) (hr : double.mul 4607182418800017408 z = some z) :
    Calls Tryz.prog 91 #[.float .f64 x, .int .i64 e] w fun e w' => e = .returned (.float .f64 z) ∧ w' = w := by
  have g := mul_run w _ _ _ hr
  clear hr
  unfold zeroB at h0
  have b1 := bits14
  have b2 := from13
  have HN : Hid (∀ w, Calls Tryz.prog 138 #[.float .f64 x] w fun e w' => e = .returned (.tuple #[.float .f64 f, .int .i64 k]) ∧ w' = w) := hn
  clear hn
  subst hS
  go_enter Tryz.func91, Tryz.ntmps91
  go_wp2_with (first | (go_at_call 52; refine (inf12z _ _).mono ?_; rintro e w' ⟨rfl, rfl⟩) | (go_at_call 56; refine (nan11 _ _).mono ?_; rintro e w' ⟨rfl, rfl⟩) | (go_at_call 138; refine (HN.out _).mono ?_; rintro e w' ⟨rfl, rfl⟩))
  go_ret
  exact ⟨rfl, rfl⟩
theorem ldexp71 (x z : Nat) (e : Int) (w : World) (h : ∀ w, Calls Tryz.prog 91 #[.float .f64 x, .int .i64 e] w fun e w' => e = .returned (.float .f64 z) ∧ w' = w) :
    Calls Tryz.prog 50 #[.float .f64 x, .int .i64 e] w fun e w' => e = .returned (.float .f64 z) ∧ w' = w := by
  have H : Hid (∀ w, Calls Tryz.prog 91 #[.float .f64 x, .int .i64 e] w fun e w' => e = .returned (.float .f64 z) ∧ w' = w) := h
  clear h
  go_enter Tryz.func50, Tryz.ntmps50
  go_wp2_with (go_at_call 91; refine (H.out _).mono ?_; rintro e w' ⟨rfl, rfl⟩)
  go_ret
  exact ⟨rfl, rfl⟩
end Go.Proofs.YthilajhciifhaaaGreatDoor.Fl
