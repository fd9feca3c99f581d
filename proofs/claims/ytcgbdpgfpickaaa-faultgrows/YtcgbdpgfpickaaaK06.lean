import Derived.Test.YtcgbdpgfpickaaaK05
import Derived.Test.YtcgbdpgfpickaaaK03
namespace Go.Proofs.Ytcgbdpgfpickaaa.Fl
open Go.RowKit
open Ieee
set_option linter.unusedVariables false

theorem near_half {N D c : Nat} (hn : Near N D c) (h1 : c = 1 → D ≤ 2 * N) : 0 < c → c < 9218868437227405312 → M c * D ≤ 2 * N := by
  intro h0 _
  by_cases hc : c = 1
  · subst hc
    rw [M_one, Nat.one_mul]
    exact h1 rfl
  · have h2 := hn.2.2 h0
    have h3 := M_dbl (c := c - 1) (by omega)
    rw [show c - 1 + 1 = c from by omega] at h3
    have h4 : M c * D ≤ 2 * M (c - 1) * D := Nat.mul_le_mul_right _ h3
    rw [Nat.mul_assoc] at h4
    omega

theorem mul15 (a b s o : Nat) (sg : Bool) (r : Nat) (up : Bool) (w : World) (ha : finB a = true) (hb : finB b = true) (h1 : double.mul a b = some s) (hs : s = W sg r) (hr : r < 9223372036854775808)
    (he : ∀ w, Calls Try.prog 51 #[.float .f64 a, .float .f64 b, .float .f64 s] w fun e w' => e = .returned (.float .f64 o) ∧ w' = w) :
    Calls Try.prog 39 #[.float .f64 a, .float .f64 b, .bool up] w fun e w' => e = .returned (.float .f64 (sideW sg r o up)) ∧ w' = w := by
  have g1 := mul_run w _ _ _ h1
  clear h1
  have hS := fun w => side20 sg r o up w hr
  rw [← hs] at hS
  have HE : Hid (∀ w, Calls Try.prog 51 #[.float .f64 a, .float .f64 b, .float .f64 s] w fun e w' => e = .returned (.float .f64 o) ∧ w' = w) := he
  have HS : Hid (∀ w, Calls Try.prog 48 #[.float .f64 s, .float .f64 o, .bool up] w fun e w' => e = .returned (.float .f64 (sideW sg r o up)) ∧ w' = w) := hS
  clear he hS hs hr
  generalize sideW sg r o up = res at *
  go_enter Try.func39, Try.ntmps39
  go_wp2_with (first | (go_at_call 47; refine (fin15 _ _).mono ?_; rintro e w' ⟨rfl, rfl⟩) | (go_at_call 51; refine (HE.out _).mono ?_; rintro e w' ⟨rfl, rfl⟩) | (go_at_call 48; refine (HS.out _).mono ?_; rintro e w' ⟨rfl, rfl⟩))
  go_ret
  exact ⟨rfl, rfl⟩
theorem mul15_not (a b v : Nat) (up : Bool) (w w2 : World) (h : (finB a && finB b) = false) (h1 : (binOp .mul 22 (.float .f64 a) (.float .f64 b)).run Try.prog w = .ok (.float .f64 v) w2) :
    Calls Try.prog 39 #[.float .f64 a, .float .f64 b, .bool up] w fun e w' => e = .returned (.float .f64 v) ∧ w' = w2 := by
  cases ha : finB a
  · go_enter Try.func39, Try.ntmps39
    go_wp2_with (go_at_call 47; refine (fin15 _ _).mono ?_; rintro e w' ⟨rfl, rfl⟩)
    go_ret
    exact ⟨rfl, rfl⟩
  · have hb : finB b = false := by rw [ha, Bool.true_and] at h; exact h
    clear h
    go_enter Try.func39, Try.ntmps39
    go_wp2_with (go_at_call 47; refine (fin15 _ _).mono ?_; rintro e w' ⟨rfl, rfl⟩)
    go_ret
    exact ⟨rfl, rfl⟩

/-- WHAT Mul TELLS -/
def MulSpec (s : Bool) (a : Nat) (t : Bool) (b : Nat) (up : Bool) (o : Option Nat) : Prop :=
  if a < 9218868437227405312 ∧ b < 9218868437227405312 then ∃ r, o = some (W (s ^^ t) r) ∧ Dir (up != (s ^^ t)) (M a * M b) U r
  else o = double.mul (W s a) (W t b)

theorem mul_tiny (s t : Bool) (a b : Nat) (ha : a < 9218868437227405312) (hb : b < 9218868437227405312) (h : 2 * (M a * M b) < U) : double.mul (W s a) (W t b) = some (W (s ^^ t) 0) := by
  rw [mul_W s t a b ha hb]
  refine congrArg some (nearest_tiny _ _ _ E74 (mul_place a b) ?_)
  rw [mul_mag]
  exact h
theorem W_inj {s : Bool} {a b : Nat} (h : W s a = W s b) : a = b := by
  unfold W at h
  cases s <;> simp at h <;> omega

theorem mul_sem (s t : Bool) (a b : Nat) (up : Bool) (ha : a < 9218868437227405312) (hb : b < 9218868437227405312) :
    ∃ r, Dir (up != (s ^^ t)) (M a * M b) U r ∧
      ∀ w, Calls Try.prog 39 #[.float .f64 (W s a), .float .f64 (W t b), .bool up] w fun e w' => e = .returned (.float .f64 (W (s ^^ t) r)) ∧ w' = w := by
  obtain ⟨r, c, h1, h2, h3, h4⟩ := mul_faithful s t a b ha hb
  have hfa : finB (W s a) = true := by rw [finB_W s a (by omega)]; exact decide_eq_true ha
  have hfb : finB (W t b) = true := by rw [finB_W t b (by omega)]; exact decide_eq_true hb
  have hnear : Near (M a * M b) U (min c 9218868437227405312) := near_of_faithful (r := r) U_pos h1 h2 h3
  have hhalf := near_half hnear (by
    intro hc
    refine Nat.le_of_not_lt fun hlt => ?_
    have := mul_tiny s t a b ha hb hlt
    rw [h4, hc] at this
    injection this with this
    have := W_inj this
    omega)
  obtain ⟨o, g1, g2, g3⟩ := mul_err s t a b _ ha hb hnear hhalf
  obtain ⟨r', k1, k2⟩ := side_ok _ _ U _ o up U_pos hnear g2 g3
  refine ⟨r', k2, fun w => ?_⟩
  have := mul15 _ _ _ o _ _ up w hfa hfb h4 rfl (by omega) g1
  rw [k1] at this
  exact this

theorem mul15_spec (s t : Bool) (a b : Nat) (up : Bool) (ha : a < 9223372036854775808) (hb : b < 9223372036854775808) :
    ∃ o, MulSpec s a t b up o ∧ ∀ w, Calls Try.prog 39 #[.float .f64 (W s a), .float .f64 (W t b), .bool up] w fun e w' => ∃ v, e = .returned (.float .f64 v) ∧ OkR o v ∧ Grown w w' := by
  by_cases hf : a < 9218868437227405312 ∧ b < 9218868437227405312
  · obtain ⟨r, h1, h2⟩ := mul_sem s t a b up hf.1 hf.2
    refine ⟨some (W (s ^^ t) r), by unfold MulSpec; rw [if_pos hf]; exact ⟨r, rfl, h1⟩, fun w => ?_⟩
    refine (h2 w).mono ?_
    rintro e w' ⟨rfl, rfl⟩
    exact ⟨_, rfl, rfl, Grown.refl _⟩
  · refine ⟨double.mul (W s a) (W t b), by unfold MulSpec; rw [if_neg hf], fun w => ?_⟩
    have hfin : (finB (W s a) && finB (W t b)) = false := by
      rw [finB_W s a ha, finB_W t b hb, ← Bool.decide_and]
      exact decide_eq_false hf
    cases ho : double.mul (W s a) (W t b) with
    | some v =>
      refine (mul15_not _ _ v up w w hfin (mul_run w _ _ _ ho)).mono ?_
      rintro e w' ⟨rfl, rfl⟩
      exact ⟨_, rfl, rfl, Grown.refl _⟩
    | none =>
      obtain ⟨v, h1, h2⟩ := nan_drawn .mul (by simp) 22 (W s a) (W t b) w ho
      refine (mul15_not _ _ v up w _ hfin h1).mono ?_
      rintro e w' ⟨rfl, rfl⟩
      exact ⟨_, rfl, h2, (Grown.refl _).drew⟩
end Go.Proofs.Ytcgbdpgfpickaaa.Fl
namespace Go.Proofs.Ytcgbdpgfpickaaa.Fl
open Go.RowKit
open Ieee
set_option linter.unusedVariables false

/-- what is cut off and marked, held against whole numbers, stands as what was there -/
theorem sticky_le (x n k : Nat) (hn : 0 < n) : 2 * k ≤ 2 * (x / n) + (x % n != 0).toNat ↔ k * n ≤ x := by
  have hb : (x % n != 0).toNat ≤ 1 := Bool.toNat_le _
  rw [← Nat.le_div_iff_mul_le hn]
  omega
theorem sticky_eq (x n k : Nat) (hn : 0 < n) : 2 * k = 2 * (x / n) + (x % n != 0).toNat ↔ k * n = x := by
  have hb : (x % n != 0).toNat ≤ 1 := Bool.toNat_le _
  have hd := Nat.div_add_mod x n
  constructor
  · intro h
    have h1 : (x % n != 0).toNat = 0 := by omega
    have h2 : k = x / n := by omega
    have h3 : x % n = 0 := by
      cases hx : (x % n != 0)
      · simpa using hx
      · rw [hx] at h1; simp at h1
    rw [h2, Nat.mul_comm]
    omega
  · intro h
    have h1 : x / n = k := by rw [← h]; exact Nat.mul_div_cancel _ hn
    have h2 : x % n = 0 := by rw [← h]; exact Nat.mul_mod_left ..
    rw [h1, h2]
    rfl

/-- A QUOTIENT (or a root) THAT IS CUT OFF AND MARKED IS ROUNDED AS WHAT WAS THERE: Z of at least 54 digits, at the place e - 1; F the test of whole numbers -/
theorem marked_faithful (neg : Bool) (Z : Nat) (place : Int) (k e : Nat) (he : (e : Int) = place + 1 + 1074 + k) (he1 : 1 ≤ e) (hZ : 2 ^ 54 ≤ Z) :
    ∃ r c kr kr', M r * 2 ^ k = kr * 2 ^ e ∧ M (r + 1) * 2 ^ k = kr' * 2 ^ e ∧ 2 * kr ≤ Z ∧ Z < 2 * kr' ∧ double.nearest neg Z place = W neg (min c 9218868437227405312) ∧ (c = r ∨ (c = r + 1 ∧ Z ≠ 2 * kr)) := by
  obtain ⟨r, c, h1, h2, h3, h4⟩ := nearest_faithful neg Z place k (by omega)
  have e0 : (place + 1074 + k).toNat = e - 1 := by omega
  rw [e0] at h1 h2 h4
  have hp : 2 * 2 ^ (e - 1) = 2 ^ e := by rw [Nat.mul_comm, ← Nat.pow_succ]; congr 1; omega
  have hup : M (r + 1) ≤ 9007199254740992 * 2 ^ ex r := by
    rw [M_succ]
    unfold M
    have := mant_lt r
    calc mant r * 2 ^ ex r + 2 ^ ex r = (mant r + 1) * 2 ^ ex r := by rw [Nat.add_mul, Nat.one_mul]
      _ ≤ 9007199254740992 * 2 ^ ex r := Nat.mul_le_mul_right _ (by omega)
  have hlt : 2 ^ (53 + e) < 2 ^ (53 + (ex r + k)) := by
    calc 2 ^ (53 + e) = 2 ^ 53 * 2 ^ e := by rw [Nat.pow_add]
      _ = 2 ^ 53 * (2 * 2 ^ (e - 1)) := by rw [hp]
      _ = 2 ^ 54 * 2 ^ (e - 1) := by rw [← Nat.mul_assoc]
      _ ≤ Z * 2 ^ (e - 1) := Nat.mul_le_mul_right _ hZ
      _ < M (r + 1) * 2 ^ k := h2
      _ ≤ 9007199254740992 * 2 ^ ex r * 2 ^ k := Nat.mul_le_mul_right _ hup
      _ = 2 ^ (53 + (ex r + k)) := by rw [Nat.mul_assoc, ← Nat.pow_add, Nat.pow_add 2 53]
  have hq := (Nat.pow_lt_pow_iff_right (by omega : 1 < 2)).1 hlt
  obtain ⟨j, hj⟩ : ∃ j, ex r + k = e + j := ⟨ex r + k - e, by omega⟩
  have d1 : M r * 2 ^ k = mant r * 2 ^ j * 2 ^ e := by
    unfold M
    rw [Nat.mul_assoc, ← Nat.pow_add, hj, Nat.pow_add, Nat.mul_assoc, Nat.mul_comm (2 ^ j)]
  have d2 : M (r + 1) * 2 ^ k = (mant r + 1) * 2 ^ j * 2 ^ e := by
    rw [M_succ]
    unfold M
    rw [show mant r * 2 ^ ex r + 2 ^ ex r = (mant r + 1) * 2 ^ ex r from by rw [Nat.add_mul, Nat.one_mul], Nat.mul_assoc, ← Nat.pow_add, hj, Nat.pow_add, Nat.mul_assoc, Nat.mul_comm (2 ^ j)]
  have hpos := Nat.two_pow_pos (e - 1)
  refine ⟨r, c, mant r * 2 ^ j, (mant r + 1) * 2 ^ j, d1, d2, ?_, ?_, h3, ?_⟩
  · rw [d1, ← hp, ← Nat.mul_assoc] at h1
    have := Nat.le_of_mul_le_mul_right h1 hpos
    omega
  · rw [d2, ← hp, ← Nat.mul_assoc] at h2
    have := Nat.lt_of_mul_lt_mul_right h2
    omega
  · rcases h4 with h4 | ⟨h4, h5⟩
    · exact Or.inl h4
    · refine Or.inr ⟨h4, fun hz => h5 ?_⟩
      rw [hz, d1, ← hp, Nat.mul_comm 2, Nat.mul_assoc, Nat.mul_assoc]

def E5k : Nat := 5000
theorem E5k_eq : E5k = 5000 := rfl
/-- the parts of a quotient -/
theorem div_parts (s t : Bool) (a b : Nat) (ha : a < 9218868437227405312) (hb : b < 9218868437227405312) (ha0 : 0 < a) (hb0 : 0 < b) :
    ∃ (x : Nat) (place : Int) (k e : Nat), (e : Int) = place + 1 + 1074 + k ∧ 1 ≤ e ∧ 2 ^ 54 ≤ 2 * (x / mant b) + (x % mant b != 0).toNat ∧ 0 < mant b ∧ x * 2 ^ e * 2 ^ ex b = M a * U * 2 ^ k ∧
      double.div (W s a) (W t b) = some (double.nearest (s ^^ t) (2 * (x / mant b) + (x % mant b != 0).toNat) place) := by
  have hma : mant a ≠ 0 := by
    intro h
    have := M_pos ha0
    unfold M at this
    rw [h, Nat.zero_mul] at this
    omega
  have hmb : mant b ≠ 0 := by
    intro h
    have := M_pos hb0
    unfold M at this
    rw [h, Nat.zero_mul] at this
    omega
  have hla : (mant a).log2 < 53 := (Nat.log2_lt hma).2 (mant_lt a)
  have hb1 := Nat.log2_self_le hma
  have hb2 := lt_log2 (mant b)
  have hE := E74_eq
  have hE5 := E5k_eq
  have hexa : ex a ≤ 2045 := by unfold ex; omega
  have hexb : ex b ≤ 2045 := by unfold ex; omega
  refine ⟨mant a * 2 ^ (54 + (mant b).log2 - (mant a).log2), (-1074 + (ex a : Int)) - (-1074 + (ex b : Int)) - ((54 + (mant b).log2 - (mant a).log2 : Nat) : Int) - 1, E5k, (ex a + 1074 + E5k - ex b - (54 + (mant b).log2 - (mant a).log2)), ?_, ?_, ?_, by omega, ?_, ?_⟩
  · have hlb : (mant b).log2 < 53 := (Nat.log2_lt hmb).2 (mant_lt b)
    omega
  · have hlb : (mant b).log2 < 53 := (Nat.log2_lt hmb).2 (mant_lt b)
    omega
  · have h1 : 2 ^ 53 ≤ mant a * 2 ^ (54 + (mant b).log2 - (mant a).log2) / mant b := by
      rw [Nat.le_div_iff_mul_le (by omega)]
      calc 2 ^ 53 * mant b ≤ 2 ^ 53 * 2 ^ ((mant b).log2 + 1) := Nat.mul_le_mul_left _ (Nat.le_of_lt hb2)
        _ = 2 ^ (mant a).log2 * 2 ^ (54 + (mant b).log2 - (mant a).log2) := by
          rw [← Nat.pow_add, ← Nat.pow_add]; congr 1; omega
        _ ≤ mant a * 2 ^ (54 + (mant b).log2 - (mant a).log2) := Nat.mul_le_mul_right _ hb1
    generalize mant a * 2 ^ (54 + (mant b).log2 - (mant a).log2) / mant b = z at *
    have : (2 : Nat) ^ 54 = 2 * 2 ^ 53 := rfl
    omega
  · have hlb : (mant b).log2 < 53 := (Nat.log2_lt hmb).2 (mant_lt b)
    unfold M U
    rw [Nat.mul_assoc, Nat.mul_assoc, Nat.mul_assoc, Nat.mul_assoc, ← Nat.pow_add, ← Nat.pow_add, ← Nat.pow_add, ← Nat.pow_add]
    congr 2
    omega
  · unfold Format.div
    rw [read_fin s a ha, read_fin t b hb, d_frac]
    simp only [Datum.quotient]
    rw [if_neg hmb, Option.map_some, Nat.shiftLeft_eq]
    rfl

theorem div_faithful (s t : Bool) (a b : Nat) (ha : a < 9218868437227405312) (hb : b < 9218868437227405312) (hb0 : 0 < b) :
    ∃ r c, M r * M b ≤ M a * U ∧ M a * U < M (r + 1) * M b ∧ (c = r ∨ (c = r + 1 ∧ M a * U ≠ M r * M b)) ∧ double.div (W s a) (W t b) = some (W (s ^^ t) (min c 9218868437227405312)) := by
  by_cases ha0 : a = 0
  · subst ha0
    have hmb : mant b ≠ 0 := by
      intro h
      have := M_pos hb0
      unfold M at this
      rw [h, Nat.zero_mul] at this
      omega
    refine ⟨0, 0, by rw [M_zero, Nat.zero_mul]; omega, ?_, Or.inl rfl, ?_⟩
    · rw [M_zero, Nat.zero_mul]
      exact Nat.mul_pos (M_pos (by omega)) (M_pos hb0)
    · unfold Format.div
      rw [read_fin s 0 ha, read_fin t b hb]
      simp only [Datum.quotient]
      rw [if_neg hmb, Option.map_some]
      have e : mant 0 = 0 := rfl
      rw [e, Nat.zero_shiftLeft, Nat.zero_div, Nat.zero_mod, Nat.zero_min]
      refine congrArg some ?_
      show double.nearest (s ^^ t) 0 _ = _
      unfold Format.nearest
      rw [if_pos rfl, word_W]
  · obtain ⟨x, place, k, e, h1, h2, h3, h4, h5, h6⟩ := div_parts s t a b ha hb (by omega) hb0
    obtain ⟨r, c, kr, kr', g1, g2, g3, g4, g5, g6⟩ := marked_faithful (s ^^ t) _ place k e h1 h2 h3
    have hk := Nat.two_pow_pos k
    have he := Nat.two_pow_pos e
    have hx := Nat.two_pow_pos (ex b)
    have key : ∀ q, M q * M b * 2 ^ k = M q * 2 ^ k * mant b * 2 ^ ex b := by
      intro q
      conv => lhs; rw [show M b = mant b * 2 ^ ex b from rfl]
      rw [Nat.mul_right_comm, ← Nat.mul_assoc]
    refine ⟨r, c, ?_, ?_, ?_, by rw [h6, g5]⟩
    · refine Nat.le_of_mul_le_mul_right (c := 2 ^ k) ?_ hk
      rw [key, ← h5, g1]
      refine Nat.mul_le_mul_right _ ?_
      rw [Nat.mul_right_comm]
      exact Nat.mul_le_mul_right _ ((sticky_le x (mant b) kr h4).1 g3)
    · refine Nat.lt_of_mul_lt_mul_right (a := 2 ^ k) ?_
      rw [key, ← h5, g2]
      refine Nat.mul_lt_mul_of_pos_right ?_ hx
      rw [Nat.mul_right_comm]
      refine Nat.mul_lt_mul_of_pos_right ?_ he
      refine Nat.lt_of_not_le fun hle => ?_
      have := (sticky_le x (mant b) kr' h4).2 hle
      omega
    · rcases g6 with g6 | ⟨g6, g7⟩
      · exact Or.inl g6
      · refine Or.inr ⟨g6, fun hz => g7 ?_⟩
        have hz' := congrArg (· * 2 ^ k) hz
        rw [key, ← h5, g1] at hz'
        have h7 := Nat.eq_of_mul_eq_mul_right hx hz'
        rw [Nat.mul_right_comm] at h7
        have h8 := Nat.eq_of_mul_eq_mul_right he h7
        exact ((sticky_eq x (mant b) kr h4).2 h8.symm).symm
theorem div_tiny (s t : Bool) (a b : Nat) (ha : a < 9218868437227405312) (hb : b < 9218868437227405312) (ha0 : 0 < a) (hb0 : 0 < b) (h : 2 * (M a * U) < M b) : double.div (W s a) (W t b) = some (W (s ^^ t) 0) := by
  obtain ⟨x, place, k, e, h1, h2, h3, h4, h5, h6⟩ := div_parts s t a b ha hb ha0 hb0
  rw [h6]
  refine congrArg some (nearest_tiny _ _ _ k (by omega) ?_)
  have e0 : (place + 1074 + k).toNat = e - 1 := by omega
  have hp : 2 * 2 ^ (e - 1) = 2 ^ e := by rw [Nat.mul_comm, ← Nat.pow_succ]; congr 1; omega
  rw [e0]
  -- twice the quotient is below 2 to the power k - e
  have q1 : 2 * x * 2 ^ e < mant b * 2 ^ k := by
    refine Nat.lt_of_mul_lt_mul_right (a := 2 ^ ex b) ?_
    calc 2 * x * 2 ^ e * 2 ^ ex b = 2 * (x * 2 ^ e * 2 ^ ex b) := by rw [Nat.mul_assoc 2, Nat.mul_assoc 2]
      _ = 2 * (M a * U) * 2 ^ k := by rw [h5, Nat.mul_assoc 2]
      _ < M b * 2 ^ k := Nat.mul_lt_mul_of_pos_right h (Nat.two_pow_pos _)
      _ = mant b * 2 ^ k * 2 ^ ex b := by unfold M; rw [Nat.mul_right_comm]
  have q2 : e + 1 ≤ k := by
    refine Nat.le_of_not_lt fun hgt => ?_
    have q3 : 2 ^ k ≤ 2 ^ e := Nat.pow_le_pow_right (by omega) (by omega)
    have q4 : mant b ≤ x := by
      have hd : 0 < x / mant b := by
        refine Nat.pos_of_ne_zero fun h0 => ?_
        rw [h0] at h3
        have hb : (x % mant b != 0).toNat ≤ 1 := Bool.toNat_le _
        omega
      exact (Nat.div_pos_iff.1 hd).2
    have q5 : mant b * 2 ^ k ≤ x * 2 ^ e := Nat.mul_le_mul q4 q3
    rw [Nat.mul_assoc] at q1
    omega
  obtain ⟨j, hj⟩ : ∃ j, k = e + 1 + j := ⟨k - e - 1, by omega⟩
  have q6 : x < 2 ^ j * mant b := by
    have e1 : mant b * 2 ^ k = 2 * (2 ^ j * mant b) * 2 ^ e := by
      rw [hj, Nat.pow_add, Nat.pow_add, Nat.pow_one, Nat.mul_comm (2 ^ e) 2, ← Nat.mul_assoc, ← Nat.mul_assoc, Nat.mul_comm (mant b) 2, Nat.mul_right_comm (2 * mant b), Nat.mul_assoc 2, Nat.mul_comm (mant b)]
    rw [e1] at q1
    have := Nat.lt_of_mul_lt_mul_right q1
    omega
  have q7 : 2 * (x / mant b) + (x % mant b != 0).toNat < 2 * 2 ^ j := by
    refine Nat.lt_of_not_le fun hle => ?_
    have := (sticky_le x (mant b) (2 ^ j) h4).1 hle
    omega
  generalize 2 * (x / mant b) + (x % mant b != 0).toNat = Z at *
  calc 2 * (Z * 2 ^ (e - 1)) = Z * 2 ^ e := by rw [← hp, Nat.mul_left_comm]
    _ < 2 * 2 ^ j * 2 ^ e := Nat.mul_lt_mul_of_pos_right q7 (Nat.two_pow_pos _)
    _ = 2 ^ k := by rw [hj, Nat.pow_add, Nat.pow_add, Nat.pow_one, Nat.mul_comm (2 ^ e) 2, Nat.mul_right_comm]
end Go.Proofs.Ytcgbdpgfpickaaa.Fl
namespace Go.Proofs.Ytcgbdpgfpickaaa.Fl
open Go.RowKit
open Ieee
set_option linter.unusedVariables false

theorem div_run (w : World) (x y r : Nat) (h : double.div x y = some r) : (binOp .quo 22 (.float .f64 x) (.float .f64 y)).run Try.prog w = .ok (.float .f64 r) w :=
  run_float_arith (P := Try.prog) w .quo 22 .f64 x y r h

theorem fma_inf_first (u t s : Bool) (b a : Nat) (hb0 : 0 < b) (hb : b < 9218868437227405312) (ha : a < 9218868437227405312) : double.fma (W u 9218868437227405312) (W t b) (W s a) = some (W (u ^^ t) 9218868437227405312) := by
  have hmb : mant b ≠ 0 := by
    intro h
    have := M_pos hb0
    unfold M at this
    rw [h, Nat.zero_mul] at this
    omega
  unfold Format.fma
  rw [read_inf, read_fin t b hb, read_fin s a ha]
  simp only [Datum.product]
  rw [if_neg hmb]
  cases u <;> cases t <;> rfl

theorem flip_says (s t so : Bool) (d P F : Nat) (X : Int) (hd : d ≤ 9218868437227405312) (hX : X = if s then (P : Int) - (F : Int) else (F : Int) - (P : Int))
    (g3 : posB (W so d) = decide (0 < X)) (g4 : negB (W so d) = decide (X < 0)) :
    (if (s ^^ t) then negB (if t then W (!so) d else W so d) else posB (if t then W (!so) d else W so d)) = decide (P < F) ∧
    (if (s ^^ t) then posB (if t then W (!so) d else W so d) else negB (if t then W (!so) d else W so d)) = decide (F < P) := by
  have f1 : posB (W (!so) d) = negB (W so d) := by rw [posB_W _ _ hd, negB_W _ _ hd, Bool.not_not]
  have f2 : negB (W (!so) d) = posB (W so d) := by rw [posB_W _ _ hd, negB_W _ _ hd]
  subst hX
  cases s <;> cases t <;> simp only [Bool.xor_false, Bool.xor_true, Bool.not_true, Bool.not_false, Bool.false_eq_true, if_false, if_true, f1, f2, g3, g4] <;> constructor <;> exact decide_eq_decide.2 (by omega)

theorem fmaX_div (s t : Bool) (q b a : Nat) : fmaX (!(s ^^ t)) t s q b a = if s then ((M q * M b : Nat) : Int) - ((M a * U : Nat) : Int) else ((M a * U : Nat) : Int) - ((M q * M b : Nat) : Int) := by
  unfold fmaX val
  rw [Int.natCast_mul (M a) U]
  generalize ((M q * M b : Nat) : Int) = y
  cases s <;> cases t <;> simp only [Bool.xor_false, Bool.xor_true, Bool.not_true, Bool.not_false, Bool.false_eq_true, if_false, if_true] <;> first | (rw [Int.neg_mul]; rfl) | (rw [Int.sub_eq_add_neg, Int.add_comm])

end Go.Proofs.Ytcgbdpgfpickaaa.Fl
namespace Go.Proofs.Ytcgbdpgfpickaaa.Fl
open Go.RowKit
open Ieee
set_option linter.unusedVariables false

/-- WHAT Div TELLS -/
def DivSpec (s : Bool) (a : Nat) (t : Bool) (b : Nat) (up : Bool) (o : Option Nat) : Prop :=
  if a < 9218868437227405312 ∧ b < 9218868437227405312 ∧ 0 < b then ∃ r, o = some (W (s ^^ t) r) ∧ Dir (up != (s ^^ t)) (M a * U) (M b) r
  else o = double.div (W s a) (W t b)

end Go.Proofs.Ytcgbdpgfpickaaa.Fl
namespace Go.Proofs.Ytcgbdpgfpickaaa.Fl
open Go.RowKit
open Ieee
set_option linter.unusedVariables false

theorem sq_lt {a b : Nat} (h : a < b) : a * a < b * b := Nat.mul_lt_mul'' h h
theorem sq_le {a b : Nat} (h : a ≤ b) : a * a ≤ b * b := Nat.mul_le_mul h h
theorem of_sq_le {a b : Nat} (h : a * a ≤ b * b) : a ≤ b := Nat.le_of_not_lt fun hlt => by have := sq_lt hlt; omega
theorem of_sq_lt {a b : Nat} (h : a * a < b * b) : a < b := Nat.lt_of_not_le fun hle => by have := sq_le hle; omega

/-- digit by digit: the greatest number whose square is not above n -/
theorem rootFrom_spec (n : Nat) : ∀ todo root, root * root ≤ n → n < (root + 2 ^ todo) * (root + 2 ^ todo) → Datum.rootFrom n todo root * Datum.rootFrom n todo root ≤ n ∧ n < (Datum.rootFrom n todo root + 1) * (Datum.rootFrom n todo root + 1) := by
  intro todo
  induction todo with
  | zero =>
    intro root h1 h2
    exact ⟨h1, h2⟩
  | succ k ih =>
    intro root h1 h2
    unfold Datum.rootFrom
    simp only []
    rw [Nat.shiftLeft_eq, Nat.one_mul]
    by_cases h : (root + 2 ^ k) * (root + 2 ^ k) ≤ n
    · rw [if_pos h]
      refine ih _ h ?_
      rw [Nat.pow_succ, Nat.mul_two, ← Nat.add_assoc] at h2
      exact h2
    · rw [if_neg h]
      exact ih _ h1 (by omega)
theorem root_start (n : Nat) : n < (0 + 2 ^ (n.log2 / 2 + 1)) * (0 + 2 ^ (n.log2 / 2 + 1)) := by
  rw [Nat.zero_add, ← Nat.pow_add]
  refine Nat.lt_of_lt_of_le (lt_log2 n) (Nat.pow_le_pow_right (by omega) (by omega))
/-- the whole root -/
def isq (n : Nat) : Nat := Datum.rootFrom n (n.log2 / 2 + 1) 0
theorem isq_le (n : Nat) : isq n * isq n ≤ n := (rootFrom_spec n _ 0 (by omega) (root_start n)).1
theorem isq_lt (n : Nat) : n < (isq n + 1) * (isq n + 1) := (rootFrom_spec n _ 0 (by omega) (root_start n)).2
theorem le_isq {n k : Nat} : k ≤ isq n ↔ k * k ≤ n := by
  constructor
  · intro h
    exact Nat.le_trans (sq_le h) (isq_le n)
  · intro h
    have := isq_lt n
    have : k < isq n + 1 := of_sq_lt (by omega)
    omega
/-- twice the whole root, and one more where it is not the root -/
def rootN (n : Nat) : Nat := 2 * isq n + (isq n * isq n != n).toNat
theorem le_rootN {n k : Nat} : 2 * k ≤ rootN n ↔ k * k ≤ n := by
  unfold rootN
  have hb : (isq n * isq n != n).toNat ≤ 1 := Bool.toNat_le _
  rw [← le_isq]
  omega
theorem eq_rootN {n k : Nat} : 2 * k = rootN n ↔ k * k = n := by
  unfold rootN
  have hb : (isq n * isq n != n).toNat ≤ 1 := Bool.toNat_le _
  constructor
  · intro h
    have h1 : (isq n * isq n != n).toNat = 0 := by omega
    have h2 : k = isq n := by omega
    rw [h2]
    cases hx : (isq n * isq n != n)
    · simpa using hx
    · rw [hx] at h1; simp at h1
  · intro h
    have h1 : k ≤ isq n := le_isq.2 (by omega)
    have h2 : isq n ≤ k := of_sq_le (by have := isq_le n; omega)
    have h3 : isq n = k := by omega
    rw [h3, h]
    simp
theorem rootN_mono {x y : Nat} (h : x ≤ y) : rootN x ≤ rootN y := by
  have hx := isq_le x
  have h1 : isq x ≤ isq y := le_isq.2 (by omega)
  unfold rootN
  have hb : (isq x * isq x != x).toNat ≤ 1 := Bool.toNat_le _
  by_cases he : isq x = isq y
  · rw [he]
    cases hy : (isq y * isq y != y)
    · have hy' : isq y * isq y = y := by simpa using hy
      have : isq y * isq y = x := by rw [he] at hx; omega
      rw [this]
      simp
    · rw [Bool.toNat_true]
      have hb : (isq y * isq y != x).toNat ≤ 1 := Bool.toNat_le _
      omega
  · omega

/-- the parts of a root -/
theorem sqrt_parts (a : Nat) (ha : a < 9218868437227405312) (ha0 : 0 < a) :
    ∃ (n : Nat) (place : Int) (k e : Nat), (e : Int) = place + 1 + 1074 + k ∧ 1 ≤ e ∧ 2 ^ 54 ≤ rootN n ∧ n * (2 ^ e * 2 ^ e) = M a * U * (2 ^ k * 2 ^ k) ∧
      double.sqrt (W false a) = some (double.nearest false (rootN n) place) := by
  have hma : mant a ≠ 0 := by
    intro h
    have := M_pos ha0
    unfold M at this
    rw [h, Nat.zero_mul] at this
    omega
  have hla : (mant a).log2 < 53 := (Nat.log2_lt hma).2 (mant_lt a)
  have hb1 := Nat.log2_self_le hma
  have hE := E74_eq
  have hE5 := E5k_eq
  have hexa : ex a ≤ 2045 := by unfold ex; omega
  have hsq : double.sqrt (W false a) = some (double.nearest false (rootN (mant a * 2 ^ (2 * 54 - (mant a).log2 + (((-1074 + (ex a : Int)) - ((2 * 54 - (mant a).log2 : Nat) : Int)) % 2).toNat))) (((-1074 + (ex a : Int)) - ((2 * 54 - (mant a).log2 + (((-1074 + (ex a : Int)) - ((2 * 54 - (mant a).log2 : Nat) : Int)) % 2).toNat : Nat) : Int)) / 2 - 1)) := by
    unfold Format.sqrt
    rw [read_fin false a ha, d_frac]
    simp only [Datum.root]
    rw [if_neg hma, if_neg (by simp), Option.map_some, Nat.shiftLeft_eq]
    rfl
  generalize hmore : 2 * 54 - (mant a).log2 + (((-1074 + (ex a : Int)) - ((2 * 54 - (mant a).log2 : Nat) : Int)) % 2).toNat = more at *
  have hpar : ((-1074 + (ex a : Int)) - (more : Int)) % 2 = 0 := by omega
  have hmo : 108 ≤ (mant a).log2 + more := by omega
  have hmo2 : more ≤ 109 := by omega
  refine ⟨mant a * 2 ^ more, ((-1074 + (ex a : Int)) - (more : Int)) / 2 - 1, E5k, (((-1074 + (ex a : Int)) - (more : Int)) / 2 + 1074 + E5k).toNat, by omega, by omega, ?_, ?_, hsq⟩
  · have h1 : 2 ^ 53 * 2 ^ 53 ≤ mant a * 2 ^ more := by
      rw [← Nat.pow_add]
      refine Nat.le_trans ?_ (Nat.mul_le_mul_right _ hb1)
      rw [← Nat.pow_add]
      exact Nat.pow_le_pow_right (by omega) (by omega)
    have h2 := (le_rootN (n := mant a * 2 ^ more) (k := 2 ^ 53)).2 h1
    have : (2 : Nat) ^ 54 = 2 * 2 ^ 53 := rfl
    omega
  · unfold M U
    rw [Nat.mul_assoc, Nat.mul_assoc, Nat.mul_assoc, ← Nat.pow_add, ← Nat.pow_add, ← Nat.pow_add, ← Nat.pow_add, ← Nat.pow_add]
    have e : more + ((((-1074 + (ex a : Int)) - (more : Int)) / 2 + 1074 + E5k).toNat + (((-1074 + (ex a : Int)) - (more : Int)) / 2 + 1074 + E5k).toNat) = ex a + (E74 + (E5k + E5k)) := by omega
    rw [e]

theorem sqrt_faithful (a : Nat) (ha : a < 9218868437227405312) (ha0 : 0 < a) :
    ∃ r c, M r * 2 ≤ rootN (M a * U) ∧ rootN (M a * U) < M (r + 1) * 2 ∧ (c = r ∨ (c = r + 1 ∧ rootN (M a * U) ≠ M r * 2)) ∧ double.sqrt (W false a) = some (W false (min c 9218868437227405312)) := by
  obtain ⟨n, place, k, e, h1, h2, h3, h5, h6⟩ := sqrt_parts a ha ha0
  obtain ⟨r, c, kr, kr', g1, g2, g3, g4, g5, g6⟩ := marked_faithful false _ place k e h1 h2 h3
  have hk : 0 < 2 ^ k * 2 ^ k := Nat.mul_pos (Nat.two_pow_pos _) (Nat.two_pow_pos _)
  have he : 0 < 2 ^ e * 2 ^ e := Nat.mul_pos (Nat.two_pow_pos _) (Nat.two_pow_pos _)
  have key : ∀ q j, M q * 2 ^ k = j * 2 ^ e → M q * M q * (2 ^ k * 2 ^ k) = j * j * (2 ^ e * 2 ^ e) := by
    intro q j h
    rw [Nat.mul_mul_mul_comm, h, Nat.mul_mul_mul_comm]
  have k1 := key r kr g1
  have k2 := key (r + 1) kr' g2
  refine ⟨r, c, ?_, ?_, ?_, by rw [h6, g5]⟩
  · rw [Nat.mul_comm, le_rootN]
    refine Nat.le_of_mul_le_mul_right ?_ hk
    rw [k1, ← h5]
    exact Nat.mul_le_mul_right _ (le_rootN.1 g3)
  · refine Nat.lt_of_not_le fun hle => ?_
    rw [Nat.mul_comm, le_rootN] at hle
    have h7 := Nat.mul_le_mul_right (2 ^ k * 2 ^ k) hle
    rw [k2, ← h5] at h7
    have h8 := le_rootN.2 (Nat.le_of_mul_le_mul_right h7 he)
    omega
  · rcases g6 with g6 | ⟨g6, g7⟩
    · exact Or.inl g6
    · refine Or.inr ⟨g6, fun hz => g7 ?_⟩
      have h7 : M r * M r = M a * U := eq_rootN.1 (by rw [hz, Nat.mul_comm])
      have h8 : kr * kr * (2 ^ e * 2 ^ e) = n * (2 ^ e * 2 ^ e) := by rw [← k1, h7, h5]
      exact (eq_rootN.2 (Nat.eq_of_mul_eq_mul_right he h8)).symm
end Go.Proofs.Ytcgbdpgfpickaaa.Fl
namespace Go.Proofs.Ytcgbdpgfpickaaa.Fl
open Go.RowKit
open Ieee
set_option linter.unusedVariables false

theorem same10 (x y : Nat) (w : World) : Calls Try.prog 24 #[.float .f64 x, .float .f64 y] w fun e w' => e = .returned (.bool (sameB x y)) ∧ w' = w := by
  have h1 := bits14
  unfold sameB nanB
  cases hx : ((x : Int) == (y : Int)) <;> cases hn : (FloatKind.f64.format.order x x != some .eq)
  all_goals
    go_enter Try.func24, Try.ntmps24
    go_wp2
    go_ret
    exact ⟨by simp, rfl⟩
theorem sameB_refl (x : Nat) : sameB x x = true := by
  unfold sameB
  rw [beq_self_eq_true, Bool.true_or]

/-! the document's step -/
theorem nextW_neg (s : Bool) (r : Nat) (h : r < 9223372036854775808) : negN (nextW (!s) r true) = nextW s r false := by
  unfold nextW
  by_cases h1 : 9218868437227405312 < r
  · rw [if_pos h1, if_pos h1, neg_W _ _ h, Bool.not_not]
  rw [if_neg h1, if_neg h1]
  by_cases h2 : r = 0
  · rw [if_pos h2, if_pos h2, neg_W _ _ (by omega)]; rfl
  rw [if_neg h2, if_neg h2]
  cases s <;> simp only [Bool.not_true, Bool.not_false, Bool.true_eq_false, Bool.false_eq_true, if_true, if_false]
  · rw [neg_W _ _ (by omega)]; rfl
  · split
    · rw [neg_W _ _ h]; rfl
    · rw [neg_W _ _ (by omega)]; rfl
end Go.Proofs.Ytcgbdpgfpickaaa.Fl
