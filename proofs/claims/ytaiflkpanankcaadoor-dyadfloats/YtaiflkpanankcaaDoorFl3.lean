import Derived.Test.YtaiflkpanankcaaDoorFl2
namespace Go.Proofs.YtaiflkpanankcaaDoor.Fl
open Ieee

theorem mant_lt (r : Nat) : mant r < 9007199254740992 := by
  unfold mant; split <;> omega

/-- THE EXACT SUM, WRITTEN -/
theorem add_W (s t : Bool) (a b : Nat) (ha : a < 9218868437227405312) (hb : b < 9218868437227405312) :
    ∃ mag : Nat, ∃ place : Int, 0 ≤ place + 1074 ∧ mag * 2 ^ (place + 1074).toNat = (val s a + val t b).natAbs ∧
      double.add (W s a) (W t b) = some (double.nearest (if val s a + val t b = 0 then s && t else decide (val s a + val t b < 0)) mag place) := by
  unfold Format.add
  rw [read_fin s a ha, read_fin t b hb]
  simp only [Datum.sum, Option.map_some]
  have e1 : (-1074 + (ex a : Int) - min (-1074 + (ex a : Int)) (-1074 + (ex b : Int))).toNat = ex a - min (ex a) (ex b) := by omega
  have e2 : (-1074 + (ex b : Int) - min (-1074 + (ex a : Int)) (-1074 + (ex b : Int))).toNat = ex b - min (ex a) (ex b) := by omega
  have e3 : (min (-1074 + (ex a : Int)) (-1074 + (ex b : Int)) + 1074).toNat = min (ex a) (ex b) := by omega
  rw [e1, e2]
  have h1 := signed_down s a (min (ex a) (ex b)) (Nat.min_le_left ..)
  have h2 := signed_down t b (min (ex a) (ex b)) (Nat.min_le_right ..)
  generalize signed s (mant a) (ex a - min (ex a) (ex b)) = x at *
  generalize signed t (mant b) (ex b - min (ex a) (ex b)) = y at *
  have hp : (0 : Int) < ((2 ^ min (ex a) (ex b) : Nat) : Int) := by
    have := Nat.two_pow_pos (min (ex a) (ex b)); omega
  have h3 : (x + y) * ((2 ^ min (ex a) (ex b) : Nat) : Int) = val s a + val t b := by
    rw [Int.add_mul, h1, h2]
  · refine ⟨(x + y).natAbs, min (-1074 + (ex a : Int)) (-1074 + (ex b : Int)), by omega, ?_, ?_⟩
    · rw [e3, ← h3, Int.natAbs_mul, Int.natAbs_natCast]
    · congr 1
      have hz : (val s a + val t b = 0) ↔ (x + y = 0) := by
        rw [← h3]
        constructor
        · intro h
          rcases Int.mul_eq_zero.1 h with h | h
          · exact h
          · omega
        · intro h; rw [h, Int.zero_mul]
      have hl : (val s a + val t b < 0) ↔ (x + y < 0) := by
        rw [← h3]
        constructor
        · intro h
          refine Int.lt_of_mul_lt_mul_right (a := ((2 ^ min (ex a) (ex b) : Nat) : Int)) ?_ (by omega)
          rw [Int.zero_mul]; exact h
        · intro h
          have := Int.mul_lt_mul_of_pos_right h hp
          rw [Int.zero_mul] at this; exact this
      simp only [hz, hl]
      rfl

theorem add_exact (s t : Bool) (a b r : Nat) (ha : a < 9218868437227405312) (hb : b < 9218868437227405312) (hr : r ≤ 9218868437227405312) (h : (val s a + val t b).natAbs = M r) :
    double.add (W s a) (W t b) = some (W (if val s a + val t b = 0 then s && t else decide (val s a + val t b < 0)) r) := by
  obtain ⟨mag, place, h1, h2, h3⟩ := add_W s t a b ha hb
  rw [h3]
  congr 1
  refine nearest_exact _ _ _ 0 r (by omega) hr ?_
  have e : (place + 1074 + ((0 : Nat) : Int)).toNat = (place + 1074).toNat := by omega
  rw [Nat.pow_zero, Nat.mul_one, ← h, ← h2, e]

theorem add_faithful (s t : Bool) (a b : Nat) (ha : a < 9218868437227405312) (hb : b < 9218868437227405312) :
    ∃ r c, M r ≤ (val s a + val t b).natAbs ∧ (val s a + val t b).natAbs < M (r + 1) ∧ (c = r ∨ (c = r + 1 ∧ (val s a + val t b).natAbs ≠ M r)) ∧
      double.add (W s a) (W t b) = some (W (if val s a + val t b = 0 then s && t else decide (val s a + val t b < 0)) (min c 9218868437227405312)) := by
  obtain ⟨mag, place, h1, h2, h3⟩ := add_W s t a b ha hb
  obtain ⟨r, c, h4, h5, h6, h7⟩ := nearest_faithful (if val s a + val t b = 0 then s && t else decide (val s a + val t b < 0)) mag place 0 (by omega)
  have e : (place + 1074 + ((0 : Nat) : Int)).toNat = (place + 1074).toNat := by omega
  rw [e, h2, Nat.pow_zero, Nat.mul_one] at h4 h5 h7
  exact ⟨r, c, h4, h5, h7, by rw [h3, h6]⟩

theorem sub_W (s t : Bool) (a b : Nat) (hb : b < 9218868437227405312) : double.sub (W s a) (W t b) = double.add (W s a) (W (!t) b) := by
  unfold Format.sub Format.add
  rw [read_fin t b hb, read_fin (!t) b hb]
  rfl
theorem val_not (t : Bool) (b : Nat) : val (!t) b = -val t b := by
  cases t <;> unfold val <;> simp
theorem sub_inf (s : Bool) : double.sub (W s 9218868437227405312) (W s 9218868437227405312) = none := by
  cases s <;> rfl
theorem sub_self (s : Bool) (a : Nat) (ha : a < 9218868437227405312) : double.sub (W s a) (W s a) = some 0 := by
  rw [sub_W s s a a ha, add_exact s (!s) a a 0 ha ha (by omega) (by rw [val_not, Int.add_right_neg, M_zero]; rfl), val_not, Int.add_right_neg, if_pos rfl]
  cases s <;> rfl

def E74 : Nat := 1074
theorem E74_eq : E74 = 1074 := rfl
/-- 1, in units of the least float -/
def U : Nat := 2 ^ E74
theorem U_pos : 0 < U := Nat.two_pow_pos _
/-- a rung's size against 1: whole, -/
theorem M_whole (r : Nat) (h : E74 ≤ ex r) : M r / U = mant r * 2 ^ (ex r - E74) ∧ M r % U = 0 := by
  have e : M r = mant r * 2 ^ (ex r - E74) * U := by
    unfold M U
    rw [Nat.mul_assoc, ← Nat.pow_add, Nat.sub_add_cancel h]
  rw [e, Nat.mul_div_cancel _ U_pos, Nat.mul_mod_left]
  exact ⟨rfl, rfl⟩
/-- or with something behind the point -/
theorem M_part (r : Nat) (h : ex r < E74) : M r / U = mant r / 2 ^ (E74 - ex r) ∧ M r % U = mant r % 2 ^ (E74 - ex r) * 2 ^ ex r ∧ U = 2 ^ (E74 - ex r) * 2 ^ ex r := by
  have e : U = 2 ^ (E74 - ex r) * 2 ^ ex r := by
    unfold U
    rw [← Nat.pow_add, Nat.sub_add_cancel (Nat.le_of_lt h)]
  refine ⟨?_, ?_, e⟩
  · rw [e]; unfold M; rw [Nat.mul_div_mul_right _ _ (Nat.two_pow_pos _)]
  · rw [e]; unfold M; rw [Nat.mul_mod_mul_right]

theorem zero_W (s : Bool) (r : Nat) : (Datum.number s (mant r) (-1074 + (ex r : Int))).integral .zero = .number s (M r / U) 0 := by
  simp only [Datum.integral]
  rw [cut_zero, Nat.shiftLeft_eq]
  refine congrArg (fun z => Datum.number s z 0) ?_
  have hE := E74_eq
  by_cases h : E74 ≤ ex r
  · have e1 : (-(-1074 + (ex r : Int))).toNat = 0 := by omega
    have e2 : (-1074 + (ex r : Int)).toNat = ex r - E74 := by omega
    rw [e1, Nat.pow_zero, Nat.div_one, e2, (M_whole r h).1]
  · have e1 : (-1074 + (ex r : Int)).toNat = 0 := by omega
    have e2 : (-(-1074 + (ex r : Int))).toNat = E74 - ex r := by omega
    rw [e1, Nat.pow_zero, Nat.mul_one, e2, (M_part r (by omega)).1]

theorem evenUp_scale (low x g p : Nat) (hp : 0 < p) : evenUp low (x * p) (g * p) = evenUp low x g := by
  unfold evenUp
  have h1 : decide (g * p < 2 * (x * p)) = decide (g < 2 * x) := by
    rw [← Nat.mul_assoc]
    exact decide_eq_decide.2 ⟨fun h => Nat.lt_of_mul_lt_mul_right h, fun h => Nat.mul_lt_mul_of_pos_right h hp⟩
  have h2 : (g * p == 2 * (x * p)) = (g == 2 * x) := by
    rw [← Nat.mul_assoc]
    have : (g * p = 2 * x * p) ↔ (g = 2 * x) := ⟨fun h => Nat.eq_of_mul_eq_mul_right hp h, fun h => by rw [h]⟩
    rw [Bool.eq_iff_iff, beq_iff_eq, beq_iff_eq, this]
  rw [h1, h2]
theorem evenUp_zero (low g : Nat) (hg : 0 < g) : evenUp low 0 g = false := by
  unfold evenUp
  have h1 : decide (g < 2 * 0) = false := decide_eq_false (by omega)
  have h2 : (g == 2 * 0) = false := beq_eq_false_iff_ne.2 (by omega)
  rw [h1, h2]
  rfl

theorem even_W (s : Bool) (r : Nat) : (Datum.number s (mant r) (-1074 + (ex r : Int))).integral .even = .number s (M r / U + (evenUp (M r / U) (M r % U) U).toNat) 0 := by
  simp only [Datum.integral]
  rw [cut_even, Nat.shiftLeft_eq]
  refine congrArg (fun z => Datum.number s z 0) ?_
  have hE := E74_eq
  by_cases h : E74 ≤ ex r
  · have e1 : (-(-1074 + (ex r : Int))).toNat = 0 := by omega
    have e2 : (-1074 + (ex r : Int)).toNat = ex r - E74 := by omega
    obtain ⟨h1, h2⟩ := M_whole r h
    rw [e1, Nat.pow_zero, Nat.div_one, Nat.mod_one, e2, h1, h2, evenUp_zero _ _ U_pos, evenUp_zero _ _ (by omega)]
  · have e1 : (-1074 + (ex r : Int)).toNat = 0 := by omega
    have e2 : (-(-1074 + (ex r : Int))).toNat = E74 - ex r := by omega
    obtain ⟨h1, h2, h3⟩ := M_part r (by omega)
    rw [e1, Nat.pow_zero, Nat.mul_one, e2, h1, h2, h3, evenUp_scale _ _ _ _ (Nat.two_pow_pos _)]

/-- what is behind the point, and what is missing to the next whole number where that is not more, have rungs -/
theorem rest_rep (r : Nat) : ∃ d, M d = M r % U ∧ d < 9218868437227405312 := by
  have hE := E74_eq
  by_cases h : E74 ≤ ex r
  · exact ⟨0, by rw [(M_whole r h).2]; rfl, by omega⟩
  · have hm := mant_lt r
    obtain ⟨h1, h2, h3⟩ := M_part r (by omega)
    obtain ⟨d, h4, h5⟩ := rep (ex r) (mant r % 2 ^ (E74 - ex r)) (Nat.le_trans (Nat.mod_le _ _) (by omega))
    refine ⟨d, by rw [h4, h2], ?_⟩
    have : (ex r + 2) * 4503599627370496 ≤ 1076 * 4503599627370496 := Nat.mul_le_mul_right _ (by omega)
    omega
theorem gap_rep (r : Nat) (hu : U ≤ 2 * (M r % U)) : ∃ d, M d = U - M r % U ∧ d < 9218868437227405312 := by
  have hE := E74_eq
  have hU := U_pos
  by_cases h : E74 ≤ ex r
  · rw [(M_whole r h).2] at hu
    omega
  · have hm := mant_lt r
    obtain ⟨h1, h2, h3⟩ := M_part r (by omega)
    have hl := Nat.mod_le (mant r) (2 ^ (E74 - ex r))
    have hp := Nat.two_pow_pos (ex r)
    rw [h2, h3, ← Nat.mul_assoc] at hu
    have hu' := Nat.le_of_mul_le_mul_right hu hp
    rw [h2, h3, ← Nat.sub_mul]
    obtain ⟨d, h4, h5⟩ := rep (ex r) (2 ^ (E74 - ex r) - mant r % 2 ^ (E74 - ex r)) (by omega)
    refine ⟨d, h4, ?_⟩
    have : (ex r + 2) * 4503599627370496 ≤ 1076 * 4503599627370496 := Nat.mul_le_mul_right _ (by omega)
    omega

/-- the rung of a whole number -/
def ofN (c : Nat) : Nat := double.nearest false c 0
theorem ofN_spec (c : Nat) (hc : c ≤ 9007199254740992) : M (ofN c) = c * U ∧ ofN c < 9218868437227405312 ∧ ∀ s, double.nearest s c 0 = W s (ofN c) := by
  have hE := E74_eq
  obtain ⟨r, h1, h2⟩ := rep E74 c hc
  have h2' : r ≤ 4845873199050653696 := h2
  clear h2
  have e : ((0 : Int) + 1074 + ((0 : Nat) : Int)).toNat = E74 := rfl
  have h3 : ∀ s, double.nearest s c 0 = W s r := fun s =>
    nearest_exact s c 0 0 r (by decide) (by omega) (by
      rw [h1, Nat.pow_zero, Nat.mul_one, e])
  have h4 : ofN c = r := h3 false
  rw [h4]
  exact ⟨h1, by omega, h3⟩

theorem floatOfInt_W (n : Int) (h : n.natAbs ≤ 9007199254740992) : floatOfInt .f64 n = W (decide (n < 0)) (ofN n.natAbs) :=
  (ofN_spec n.natAbs h).2.2 _

theorem toInt_W (s : Bool) (r : Nat) (hr : r < 9218868437227405312) (hs : M r / U < 9223372036854775808) :
    floatToIntVal .f64 (W s r) .i64 = some (if s then -((M r / U : Nat) : Int) else ((M r / U : Nat) : Int)) := by
  unfold floatToIntVal
  have h1 : FloatKind.f64.decode (W s r) = .number s (mant r) (-1074 + (ex r : Int)) := read_fin s r hr
  rw [h1]
  unfold Datum.toInt
  rw [zero_W]
  simp only []
  rw [signed_val, Nat.pow_zero, Nat.mul_one]
  have e1 : IntKind.i64.min = -9223372036854775808 := rfl
  have e2 : IntKind.i64.max = 9223372036854775807 := rfl
  generalize M r / U = q at *
  rw [if_pos]
  rw [e1, e2]
  cases s
  · simp only [Bool.false_eq_true, if_false]; omega
  · simp only [if_true]; omega
end Go.Proofs.YtaiflkpanankcaaDoor.Fl
