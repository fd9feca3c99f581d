import Derived.Laws.FloatArith
import Derived.Laws.Entries
namespace Go.Proofs.YtaiflkpanankcaaDoor.Fl
open Ieee

/-- the word of a sign and a rung -/
def W (s : Bool) (r : Nat) : Nat := if s then 9223372036854775808 + r else r
/-- how many places above the least one the last digit of a rung stands -/
def ex (r : Nat) : Nat := r / 4503599627370496 - 1
def mant (r : Nat) : Nat := if r < 4503599627370496 then r else 4503599627370496 + r % 4503599627370496
/-- the size of a rung, in units of the least float -/
def M (r : Nat) : Nat := mant r * 2 ^ ex r

theorem M_at (q f : Nat) (h : (4503599627370496 ≤ f ∧ f ≤ 9007199254740992) ∨ (q = 0 ∧ f ≤ 9007199254740992)) : M (q * 4503599627370496 + f) = f * 2 ^ q := by
  unfold M mant ex
  by_cases h1 : f < 4503599627370496
  · have hq : q = 0 := by omega
    subst hq
    have : (0 * 4503599627370496 + f) / 4503599627370496 - 1 = 0 := by omega
    rw [this, if_pos (by omega)]
    simp
  · by_cases h2 : f < 9007199254740992
    · have e1 : (q * 4503599627370496 + f) / 4503599627370496 - 1 = q := by omega
      have e2 : 4503599627370496 + (q * 4503599627370496 + f) % 4503599627370496 = f := by omega
      rw [e1, if_neg (by omega), e2]
    · have h3 : f = 9007199254740992 := by omega
      subst h3
      have e1 : (q * 4503599627370496 + 9007199254740992) / 4503599627370496 - 1 = q + 1 := by omega
      have e2 : 4503599627370496 + (q * 4503599627370496 + 9007199254740992) % 4503599627370496 = 4503599627370496 := by omega
      rw [e1, if_neg (by omega), e2, Nat.pow_succ]
      omega

theorem rung_parts (r : Nat) : ∃ f, r = ex r * 4503599627370496 + f ∧ mant r = f ∧ ((4503599627370496 ≤ f ∧ f < 9007199254740992) ∨ (ex r = 0 ∧ f < 4503599627370496)) := by
  refine ⟨mant r, ?_, rfl, ?_⟩ <;> unfold mant ex <;> split <;> omega

theorem M_succ (r : Nat) : M (r + 1) = M r + 2 ^ ex r := by
  obtain ⟨f, hr, hm, hf⟩ := rung_parts r
  have h1 : M (r + 1) = (f + 1) * 2 ^ ex r := by
    have : r + 1 = ex r * 4503599627370496 + (f + 1) := by omega
    rw [this]
    exact M_at _ _ (by omega)
  rw [h1]
  unfold M
  rw [hm, Nat.add_mul, Nat.one_mul]

theorem M_lt_succ (r : Nat) : M r < M (r + 1) := by
  rw [M_succ]
  have := Nat.two_pow_pos (ex r)
  omega

theorem M_le_add (r k : Nat) : M r + k ≤ M (r + k) := by
  induction k with
  | zero => simp
  | succ n ih =>
    have h : M (r + n) < M (r + (n + 1)) := M_lt_succ (r + n)
    omega
theorem M_lt {a b : Nat} (h : a < b) : M a < M b := by
  have := M_le_add a (b - a)
  rw [show a + (b - a) = b from by omega] at this
  omega
theorem M_le {a b : Nat} (h : a ≤ b) : M a ≤ M b := by
  rcases Nat.lt_or_eq_of_le h with h | h
  · exact Nat.le_of_lt (M_lt h)
  · rw [h]; exact Nat.le_refl _
theorem M_lt_iff {a b : Nat} : M a < M b ↔ a < b :=
  ⟨fun h => Nat.lt_of_not_le fun h' => absurd (M_le h') (by omega), M_lt⟩
theorem M_inj {a b : Nat} (h : M a = M b) : a = b := by
  rcases Nat.lt_trichotomy a b with h' | h' | h'
  · have := M_lt h'; omega
  · exact h'
  · have := M_lt h'; omega
theorem M_zero : M 0 = 0 := rfl
theorem M_pos {r : Nat} (h : 0 < r) : 0 < M r := by
  have := M_lt h
  rw [M_zero] at this
  exact this

/-- the number of a word, in units of the least float; of an infinity what would come next -/
def val (s : Bool) (r : Nat) : Int := if s then -(M r : Int) else (M r : Int)

theorem word_W (s : Bool) (r : Nat) : double.word s r = W s r := by
  cases s <;> rfl

theorem W_split (x : Nat) (h : x < 18446744073709551616) : ∃ s r, x = W s r ∧ r < 9223372036854775808 := by
  by_cases hx : x < 9223372036854775808
  · exact ⟨false, x, rfl, hx⟩
  · refine ⟨true, x - 9223372036854775808, ?_, by omega⟩
    unfold W
    simp only [if_true]
    omega
theorem W_lt (s : Bool) (r : Nat) (h : r < 9223372036854775808) : W s r < 18446744073709551616 := by
  cases s <;> simp only [W] <;> simp <;> omega

theorem W_sign (s : Bool) (r : Nat) (h : r < 9223372036854775808) : (W s r / 9223372036854775808 % 2 == 1) = s := by
  cases s
  · have : W false r / 9223372036854775808 % 2 = 0 := by unfold W; simp only [Bool.false_eq_true, if_false]; omega
    rw [this]; rfl
  · have : W true r / 9223372036854775808 % 2 = 1 := by unfold W; simp only [if_true]; omega
    rw [this]; rfl
theorem W_rung (s : Bool) (r : Nat) (h : r < 9223372036854775808) : W s r % 9223372036854775808 = r := by
  cases s
  · unfold W; simp only [Bool.false_eq_true, if_false]; omega
  · unfold W; simp only [if_true]; omega

theorem d_sign : double.signWeight = 9223372036854775808 := rfl
theorem d_binade : double.binade = 4503599627370496 := rfl
theorem d_inf : double.infRung = 9218868437227405312 := rfl
theorem d_least : double.leastPlace = -1074 := rfl
theorem d_frac : double.fractionBits = 52 := rfl

theorem read_fin (s : Bool) (r : Nat) (h : r < 9218868437227405312) : double.read (W s r) = .number s (mant r) (-1074 + (ex r : Int)) := by
  unfold Format.read
  rw [d_sign, d_binade, d_inf, d_least, W_sign s r (by omega), W_rung s r (by omega)]
  simp only []
  unfold mant ex
  by_cases h1 : r < 4503599627370496
  · rw [if_pos h1, if_pos h1]
    have : r / 4503599627370496 - 1 = 0 := by omega
    rw [this]; rfl
  · rw [if_neg h1, if_neg h1, if_pos h]
theorem read_inf (s : Bool) : double.read (W s 9218868437227405312) = .infinity s := by
  cases s <;> rfl
theorem read_nanW (s : Bool) (r : Nat) (h : r < 9223372036854775808) (hn : 9218868437227405312 < r) : double.read (W s r) = .nan s (r - 9218868437227405312) := by
  unfold Format.read
  rw [d_sign, d_binade, d_inf, d_least, W_sign s r (by omega), W_rung s r (by omega)]
  simp only []
  rw [if_neg (by omega), if_neg (by omega), if_neg (by omega)]

theorem signed_val (s : Bool) (m u : Nat) : signed s m u = (if s then -((m * 2 ^ u : Nat) : Int) else ((m * 2 ^ u : Nat) : Int)) := by
  unfold signed
  rw [Nat.shiftLeft_eq]

theorem signed_scale (s : Bool) (m u k : Nat) : signed s m (u + k) = signed s m u * ((2 ^ k : Nat) : Int) := by
  rw [signed_val, signed_val, Nat.pow_add, ← Nat.mul_assoc]
  cases s <;> simp [Int.neg_mul]

theorem signed_val_fin (s : Bool) (r : Nat) : signed s (mant r) (ex r) = val s r := by
  rw [signed_val]; rfl

/-- what stands at a common place, brought down to the least one -/
theorem signed_down (s : Bool) (r : Nat) (b : Nat) (h : b ≤ ex r) : signed s (mant r) (ex r - b) * ((2 ^ b : Nat) : Int) = val s r := by
  rw [← signed_scale, Nat.sub_add_cancel h, signed_val_fin]

theorem compare_scale (a b : Int) (k : Nat) (hk : 0 < k) : compare (a * (k : Int)) (b * (k : Int)) = compare a b := by
  have hk' : (0 : Int) < (k : Int) := by omega
  simp only [compare, compareOfLessAndEq]
  by_cases h1 : a < b
  · rw [if_pos h1, if_pos (Int.mul_lt_mul_of_pos_right h1 hk')]
  · rw [if_neg h1, if_neg (fun h => h1 (Int.lt_of_mul_lt_mul_right h (by omega)))]
    by_cases h2 : a = b
    · rw [if_pos h2, if_pos (by rw [h2])]
    · rw [if_neg h2, if_neg (fun h => h2 (Int.eq_of_mul_eq_mul_right (by omega) h))]

theorem order_fin (s t : Bool) (a b : Nat) (ha : a < 9218868437227405312) (hb : b < 9218868437227405312) : double.order (W s a) (W t b) = some (compare (val s a) (val t b)) := by
  unfold Format.order
  rw [read_fin s a ha, read_fin t b hb]
  simp only [Datum.order]
  congr 1
  rw [← signed_down s a (min (ex a) (ex b)) (Nat.min_le_left ..), ← signed_down t b (min (ex a) (ex b)) (Nat.min_le_right ..), compare_scale _ _ _ (Nat.two_pow_pos _)]
  congr 2 <;> omega

theorem compare_lt {a b : Int} (h : a < b) : compare a b = .lt := by
  simp only [compare, compareOfLessAndEq]; rw [if_pos h]
theorem compare_eq {a b : Int} (h : a = b) : compare a b = .eq := by
  subst h; simp [compare, compareOfLessAndEq]
theorem compare_gt {a b : Int} (h : b < a) : compare a b = .gt := by
  simp only [compare, compareOfLessAndEq]; rw [if_neg (by omega), if_neg (by omega)]

theorem order_W (s t : Bool) (a b : Nat) (ha : a ≤ 9218868437227405312) (hb : b ≤ 9218868437227405312) : double.order (W s a) (W t b) = some (compare (val s a) (val t b)) := by
  by_cases h1 : a < 9218868437227405312
  · by_cases h2 : b < 9218868437227405312
    · exact order_fin s t a b h1 h2
    · have hb' : b = 9218868437227405312 := by omega
      subst hb'
      unfold Format.order
      rw [read_fin s a h1, read_inf]
      simp only [Datum.order]
      congr 1
      have := M_lt h1
      cases t
      · exact (compare_lt (by unfold val; cases s <;> simp <;> omega)).symm
      · exact (compare_gt (by unfold val; cases s <;> simp <;> omega)).symm
  · have ha' : a = 9218868437227405312 := by omega
    subst ha'
    by_cases h2 : b < 9218868437227405312
    · unfold Format.order
      rw [read_fin t b h2, read_inf]
      simp only [Datum.order]
      congr 1
      have := M_lt h2
      cases s
      · exact (compare_gt (by unfold val; cases t <;> simp <;> omega)).symm
      · exact (compare_lt (by unfold val; cases t <;> simp <;> omega)).symm
    · have hb' : b = 9218868437227405312 := by omega
      subst hb'
      unfold Format.order
      rw [read_inf, read_inf]
      simp only [Datum.order]
      congr 1
      have := M_pos (r := 9218868437227405312) (by omega)
      cases s <;> cases t
      · exact (compare_eq rfl).symm
      · exact (compare_gt (by unfold val; simp; omega)).symm
      · exact (compare_lt (by unfold val; simp; omega)).symm
      · exact (compare_eq rfl).symm

theorem order_nan_left (s : Bool) (r : Nat) (y : Nat) (h : r < 9223372036854775808) (hn : 9218868437227405312 < r) : double.order (W s r) y = none := by
  unfold Format.order
  rw [read_nanW s r h hn]
  rfl
theorem order_nan_right (s : Bool) (r : Nat) (y : Nat) (h : r < 9223372036854775808) (hn : 9218868437227405312 < r) : double.order y (W s r) = none := by
  unfold Format.order
  rw [read_nanW s r h hn]
  cases double.read y <;> rfl
end Go.Proofs.YtaiflkpanankcaaDoor.Fl
