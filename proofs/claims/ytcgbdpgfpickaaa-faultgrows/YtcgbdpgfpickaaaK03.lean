import Derived.Test.YtcgbdpgfpickaaaK02
import Derived.RowKit3
namespace Go.Proofs.Ytcgbdpgfpickaaa.Fl
open Go.RowKit
open Ieee
set_option linter.unusedVariables false

theorem B_lt (s t : Bool) (a b : Nat) (ha : a ≤ 9218868437227405312) (hb : b ≤ 9218868437227405312) : (FloatKind.f64.format.order (W s a) (W t b) == some .lt) = decide (val s a < val t b) := by
  rw [f64_format, order_W s t a b ha hb]
  rcases Int.lt_trichotomy (val s a) (val t b) with h | h | h
  · rw [compare_lt h, decide_eq_true h]; rfl
  · rw [compare_eq h, decide_eq_false (by omega)]; rfl
  · rw [compare_gt h, decide_eq_false (by omega)]; rfl
theorem B_gt (s t : Bool) (a b : Nat) (ha : a ≤ 9218868437227405312) (hb : b ≤ 9218868437227405312) : (FloatKind.f64.format.order (W s a) (W t b) == some .gt) = decide (val t b < val s a) := by
  rw [f64_format, order_W s t a b ha hb]
  rcases Int.lt_trichotomy (val s a) (val t b) with h | h | h
  · rw [compare_lt h, decide_eq_false (by omega)]; rfl
  · rw [compare_eq h, decide_eq_false (by omega)]; rfl
  · rw [compare_gt h, decide_eq_true h]; rfl
theorem B_eq (s t : Bool) (a b : Nat) (ha : a ≤ 9218868437227405312) (hb : b ≤ 9218868437227405312) : (FloatKind.f64.format.order (W s a) (W t b) == some .eq) = decide (val s a = val t b) := by
  rw [f64_format, order_W s t a b ha hb]
  rcases Int.lt_trichotomy (val s a) (val t b) with h | h | h
  · rw [compare_lt h, decide_eq_false (by omega)]; rfl
  · rw [compare_eq h, decide_eq_true h]; rfl
  · rw [compare_gt h, decide_eq_false (by omega)]; rfl
theorem B_ne (s t : Bool) (a b : Nat) (ha : a ≤ 9218868437227405312) (hb : b ≤ 9218868437227405312) : (FloatKind.f64.format.order (W s a) (W t b) != some .eq) = decide (val s a ≠ val t b) := by
  rw [f64_format, order_W s t a b ha hb]
  rcases Int.lt_trichotomy (val s a) (val t b) with h | h | h
  · rw [compare_lt h, decide_eq_true (by omega)]; rfl
  · rw [compare_eq h, decide_eq_false (by omega)]; rfl
  · rw [compare_gt h, decide_eq_true (by omega)]; rfl

theorem z0 : (FloatKind.f64.format.order 0 0 == some .eq) = true := by decide +kernel

def E21 : Nat := 1021
theorem M_half : 2 * M 4602678819172646912 = U := by
  have h := M_at E21 4503599627370496 (Or.inl ⟨by omega, by omega⟩)
  have e : E21 * 4503599627370496 + 4503599627370496 = 4602678819172646912 := rfl
  rw [e] at h
  rw [h]
  unfold U
  have e2 : E74 = 53 + E21 := rfl
  rw [e2, Nat.pow_add, ← Nat.mul_assoc]
theorem val_sgnI (t : Bool) (c r : Nat) (h : M r = c * U) : val t r = sgnI t c * (U : Int) := by
  unfold val sgnI
  rw [h]
  cases t
  · simp
  · simp [Int.neg_mul]

theorem sgnI_abs (s : Bool) (c : Nat) : (sgnI s c).natAbs = c := by
  unfold sgnI; cases s <;> simp
theorem ofN_le (c : Nat) (h : c ≤ 9007199254740992) : ofN c ≤ 4845873199050653696 := by
  obtain ⟨h1, h2, _⟩ := ofN_spec c h
  refine Nat.le_of_not_lt fun hlt => ?_
  have := M_lt hlt
  rw [M_K, h1] at this
  have := Nat.mul_le_mul_right U h
  omega


theorem grown_trans {a b c : World} (h1 : Grown a b) (h2 : Grown b c) : Grown a c :=
  ⟨World.keptBut_trans h1.1 h2.1, fun x => (h2.2.1 x).trans (h1.2.1 x), Nat.le_trans h1.2.2 h2.2.2⟩

/-- a whole number's own sign, and its float -/
theorem sgnI_flip (s : Bool) (c : Nat) : sgnI (decide (sgnI s c < 0)) c = sgnI s c := by
  unfold sgnI
  cases s
  · simp only [Bool.false_eq_true, if_false]
    rw [decide_eq_false (by omega)]
    simp
  · simp only [if_true]
    by_cases h0 : c = 0
    · rw [h0]; rfl
    · rw [decide_eq_true (by omega)]
      rfl
theorem floatOfInt_sgnI (s : Bool) (c : Nat) (h : c ≤ 9007199254740992) : floatOfInt .f64 (sgnI s c) = W (decide (sgnI s c < 0)) (ofN c) := by
  have habs := sgnI_abs s c
  have := floatOfInt_W (sgnI s c) (by omega)
  rw [habs] at this
  exact this
theorem val_flip (s : Bool) (c : Nat) (h : c ≤ 9007199254740992) : val (decide (sgnI s c < 0)) (ofN c) = sgnI s c * (U : Int) := by
  rw [val_sgnI _ _ _ (ofN_spec c h).1, sgnI_flip]

/-- a float less a whole number: exact where the difference has a rung -/
theorem sub_whole (s : Bool) (r c d : Nat) (hr : r ≤ 4845873199050653696) (hc : c ≤ 9007199254740992) (hd : d < 9218868437227405312) (h : ((M r : Int) - ((c * U : Nat) : Int)).natAbs = M d) :
    ∃ sg, double.sub (W s r) (W (decide (sgnI s c < 0)) (ofN c)) = some (W sg d) := by
  obtain ⟨h1, h2, _⟩ := ofN_spec c hc
  have hv := val_flip s c hc
  generalize decide (sgnI s c < 0) = t at *
  refine ⟨(if val s r + val (!t) (ofN c) = 0 then s && !t else decide (val s r + val (!t) (ofN c) < 0)), ?_⟩
  rw [sub_W s t r _ h2]
  refine add_exact s (!t) r _ d (by omega) h2 (by omega) ?_
  rw [← h, val_not, hv]
  have e : ((c * U : Nat) : Int) = (c : Int) * (U : Int) := Int.natCast_mul c U
  rw [e]
  unfold val sgnI
  cases s
  · simp only [Bool.false_eq_true, if_false]
    generalize (c : Int) * (U : Int) = q
    generalize (M r : Int) = m
    rfl
  · simp only [if_true]
    rw [Int.neg_mul]
    generalize (c : Int) * (U : Int) = q
    generalize (M r : Int) = m
    omega
end Go.Proofs.Ytcgbdpgfpickaaa.Fl
namespace Go.Proofs.Ytcgbdpgfpickaaa.Fl
open Ieee
set_option linter.unusedVariables false

/-! ROUNDED AWAY FROM NOUGHT, OR TOWARDS IT: the size N / D, in units of the least float -/
def DirUp (N D r : Nat) : Prop := r ≤ 9218868437227405312 ∧ (r < 9218868437227405312 → N ≤ M r * D) ∧ (0 < r → M (r - 1) * D < N)
def DirDn (N D r : Nat) : Prop := r < 9218868437227405312 ∧ M r * D ≤ N ∧ (r + 1 < 9218868437227405312 → N < M (r + 1) * D)
def Dir (out : Bool) (N D r : Nat) : Prop := if out then DirUp N D r else DirDn N D r
/-- one of both neighbours, and itself where there is one -/
def Near (N D c : Nat) : Prop := c ≤ 9218868437227405312 ∧ (c < 9218868437227405312 → N < M (c + 1) * D) ∧ (0 < c → M (c - 1) * D < N)

theorem near_of_faithful {N D r c : Nat} (hD : 0 < D) (h1 : M r * D ≤ N) (h2 : N < M (r + 1) * D) (h3 : c = r ∨ (c = r + 1 ∧ N ≠ M r * D)) : Near N D (min c 9218868437227405312) := by
  have mono : ∀ {a b : Nat}, a < b → M a * D < M b * D := fun h => Nat.mul_lt_mul_of_pos_right (M_lt h) hD
  have mle : ∀ {a b : Nat}, a ≤ b → M a * D ≤ M b * D := fun h => Nat.mul_le_mul_right _ (M_le h)
  refine ⟨Nat.min_le_right .., ?_, ?_⟩
  · intro h
    have e : min c 9218868437227405312 = c := by omega
    rw [e]
    rcases h3 with rfl | ⟨rfl, _⟩
    · exact h2
    · exact Nat.lt_of_lt_of_le h2 (mle (by omega))
  · intro h
    rcases h3 with rfl | ⟨rfl, h4⟩
    · exact Nat.lt_of_lt_of_le (mono (by omega)) h1
    · have h5 : M r * D < N := by omega
      exact Nat.lt_of_le_of_lt (mle (by omega)) h5

theorem side_ok (sg : Bool) (N D c off : Nat) (up : Bool) (hD : 0 < D) (hn : Near N D c)
    (ho : (if sg then negB off else posB off) = decide (c < 9218868437227405312 ∧ M c * D < N))
    (hi : (if sg then posB off else negB off) = decide (c = 9218868437227405312 ∨ N < M c * D)) :
    ∃ r, sideW sg c off up = W sg r ∧ Dir (up != sg) N D r := by
  obtain ⟨h1, h2, h3⟩ := hn
  have mono : ∀ {a b : Nat}, a < b → M a * D < M b * D := fun h => Nat.mul_lt_mul_of_pos_right (M_lt h) hD
  unfold sideW Dir
  by_cases hud : up = sg
  · -- towards nought
    have e1 : (up != sg) = false := by subst hud; cases up <;> rfl
    have e2 : (if up = true then posB off else negB off) = decide (c = 9218868437227405312 ∨ N < M c * D) := by
      rw [← hi]; subst hud; rfl
    rw [e1, e2]
    simp only [Bool.false_eq_true, if_false, decide_eq_true_eq]
    by_cases hc : c = 9218868437227405312 ∨ N < M c * D
    · rw [if_pos hc]
      have hc0 : 0 < c := by
        refine Nat.pos_of_ne_zero fun h0 => ?_
        subst h0
        rw [M_zero] at hc
        omega
      refine ⟨c - 1, ?_, ?_⟩
      · unfold nextW
        rw [if_neg (by omega), if_neg (by omega), if_neg (by subst hud; cases up <;> simp)]
      · refine ⟨by omega, Nat.le_of_lt (h3 hc0), ?_⟩
        intro h
        have e : c - 1 + 1 = c := by omega
        rw [e] at h ⊢
        rcases hc with hc | hc
        · omega
        · exact hc
    · rw [if_neg hc]
      refine ⟨c, rfl, by omega, by omega, fun h => h2 (by omega)⟩
  · have hud' : sg = !up := by cases sg <;> cases up <;> simp at hud ⊢
    have e1 : (up != sg) = true := by subst hud'; cases up <;> rfl
    have e2 : (if up = true then posB off else negB off) = decide (c < 9218868437227405312 ∧ M c * D < N) := by
      rw [← ho]; subst hud'; cases up <;> rfl
    rw [e1, e2]
    simp only [if_true, decide_eq_true_eq]
    by_cases hc : c < 9218868437227405312 ∧ M c * D < N
    · rw [if_pos hc]
      refine ⟨c + 1, ?_, by omega, fun h => Nat.le_of_lt (h2 hc.1), fun _ => hc.2⟩
      unfold nextW
      rw [if_neg (by omega)]
      by_cases h0 : c = 0
      · rw [if_pos h0, h0, hud']
      · rw [if_neg h0, if_pos hud', if_neg (by omega)]
    · rw [if_neg hc]
      exact ⟨c, rfl, h1, fun h => by omega, h3⟩

theorem dirUp_mono {N D r N' D' r' : Nat} (hD : 0 < D) (hD' : 0 < D') (h : DirUp N D r) (h' : DirUp N' D' r') (hle : N * D' ≤ N' * D) : r ≤ r' := by
  refine Nat.le_of_not_lt fun hlt => ?_
  have h1 := h.2.2 (by omega)
  have h2 := h'.2.1 (by have := h.1; omega)
  have h3 : M r' * D' ≤ M (r - 1) * D' := Nat.mul_le_mul_right _ (M_le (by omega))
  have h4 : M (r - 1) * D * D' < N * D' := Nat.mul_lt_mul_of_pos_right h1 hD'
  have h5 : N' * D ≤ M (r - 1) * D' * D := Nat.mul_le_mul_right _ (Nat.le_trans h2 h3)
  rw [Nat.mul_right_comm] at h5
  omega
theorem dirDn_mono {N D r N' D' r' : Nat} (hD : 0 < D) (hD' : 0 < D') (h : DirDn N D r) (h' : DirDn N' D' r') (hle : N * D' ≤ N' * D) : r ≤ r' := by
  refine Nat.le_of_not_lt fun hlt => ?_
  have h1 := h'.2.2 (by have := h.1; omega)
  have h2 := h.2.1
  have h3 : M (r' + 1) * D' ≤ M r * D' := Nat.mul_le_mul_right _ (M_le (by omega))
  have h4 : N' * D < M r * D' * D := Nat.mul_lt_mul_of_pos_right (Nat.lt_of_lt_of_le h1 h3) hD
  have h5 : M r * D * D' ≤ N * D' := Nat.mul_le_mul_right _ h2
  rw [Nat.mul_right_comm] at h4
  omega
theorem dir_mono {out : Bool} {N D r N' D' r' : Nat} (hD : 0 < D) (hD' : 0 < D') (h : Dir out N D r) (h' : Dir out N' D' r') (hle : N * D' ≤ N' * D) : r ≤ r' := by
  unfold Dir at *
  cases out
  · exact dirDn_mono hD hD' h h' hle
  · exact dirUp_mono hD hD' h h' hle
theorem dir_unique {out : Bool} {N D r r' : Nat} (hD : 0 < D) (h : Dir out N D r) (h' : Dir out N D r') : r = r' :=
  Nat.le_antisymm (dir_mono hD hD h h' (Nat.le_refl _)) (dir_mono hD hD h' h (Nat.le_refl _))

/-! a sum's error -/
theorem ex_mono {a b : Nat} (h : a ≤ b) : ex a ≤ ex b := by
  unfold ex
  have := Nat.div_le_div_right (c := 4503599627370496) h
  omega
theorem M_lower (r : Nat) (h : 0 < ex r) : 4503599627370496 * 2 ^ ex r ≤ M r := by
  unfold M
  refine Nat.mul_le_mul_right _ ?_
  unfold mant ex at *
  split
  · omega
  · omega
theorem M_upper (r : Nat) : M r < 9007199254740992 * 2 ^ ex r := by
  unfold M
  exact Nat.mul_lt_mul_of_pos_right (mant_lt r) (Nat.two_pow_pos _)
theorem M_dvd {r j : Nat} (h : j ≤ ex r) : 2 ^ j ∣ M r := by
  unfold M
  exact Nat.dvd_trans (Nat.pow_dvd_pow 2 h) (Nat.dvd_mul_left ..)
theorem M_dvd_succ {r j : Nat} (h : j ≤ ex r) : 2 ^ j ∣ M (r + 1) := by
  rw [M_succ]
  exact Nat.dvd_add (M_dvd h) (Nat.pow_dvd_pow 2 h)
theorem val_dvd {s : Bool} {r j : Nat} (h : j ≤ ex r) : ((2 ^ j : Nat) : Int) ∣ val s r := by
  have h1 : ((2 ^ j : Nat) : Int) ∣ (M r : Int) := Int.natCast_dvd_natCast.2 (M_dvd h)
  unfold val
  cases s
  · exact h1
  · exact Int.dvd_neg.2 h1
theorem val_abs (s : Bool) (r : Nat) : (val s r).natAbs = M r := by
  unfold val; cases s <;> simp

/-- a multiple of 2^j that is not too great has a rung -/
theorem rep_dvd (x : Int) (j : Nat) (hd : ((2 ^ j : Nat) : Int) ∣ x) (hb : x.natAbs ≤ 9007199254740992 * 2 ^ j) : ∃ r, M r = x.natAbs := by
  obtain ⟨k, hk⟩ := hd
  have h1 : x.natAbs = k.natAbs * 2 ^ j := by
    rw [hk, Int.natAbs_mul, Int.natAbs_natCast, Nat.mul_comm]
  rw [h1] at hb ⊢
  have h2 := Nat.le_of_mul_le_mul_right hb (Nat.two_pow_pos j)
  obtain ⟨r, h3, _⟩ := rep j k.natAbs h2
  exact ⟨r, h3⟩
theorem pow_dbl {a b : Nat} (h : a < b) : 2 * 2 ^ a ≤ 2 ^ b := by
  have h1 : (2 : Nat) ^ (a + 1) ≤ 2 ^ b := Nat.pow_le_pow_right (by omega) (by omega)
  rw [Nat.pow_succ] at h1
  omega

/-- THE FIRST DIFFERENCE IS EXACT: sizes A = M a, B = M b not above it, X their sum or difference, C what it is rounded to -/
theorem first_exact (a b r c X : Nat) (hab : b ≤ a) (hX : X = M a + M b ∨ X + M b = M a) (h1 : M r ≤ X) (h2 : X < M (r + 1)) (h3 : c = r ∨ (c = r + 1 ∧ X ≠ M r)) :
    ∃ d, M d = ((M c : Int) - (M a : Int)).natAbs := by
  have hex := ex_mono hab
  have hAB := M_le hab
  have hs := M_succ r
  have hdist : ((M c : Int) - (X : Int)).natAbs < 2 ^ ex r := by
    rcases h3 with rfl | ⟨rfl, h3⟩
    · omega
    · omega
  have dX : ∀ j, j ≤ ex b → 2 ^ j ∣ X := by
    intro j hj
    have d1 := M_dvd (r := a) (j := j) (by omega)
    have d2 := M_dvd (r := b) (j := j) hj
    rcases hX with hX | hX
    · rw [hX]; exact Nat.dvd_add d1 d2
    · have : X = M a - M b := by omega
      rw [this]; exact Nat.dvd_sub d1 d2
  have dC : ∀ j, j ≤ ex r → 2 ^ j ∣ M c := by
    intro j hj
    rcases h3 with rfl | ⟨rfl, _⟩
    · exact M_dvd hj
    · exact M_dvd_succ hj
  by_cases hq : ex r ≤ ex b
  · have hz : X - M r = 0 := by
      refine Nat.eq_zero_of_dvd_of_lt (Nat.dvd_sub (dX _ hq) (M_dvd (Nat.le_refl _))) ?_
      omega
    have hc : c = r := by
      rcases h3 with h | ⟨_, h⟩
      · exact h
      · omega
    subst hc
    refine ⟨b, ?_⟩
    rcases hX with hX | hX <;> omega
  · have hb := M_upper b
    have p1 := pow_dbl (show ex b < ex r by omega)
    by_cases hqa : ex r ≤ ex a
    · refine rep_dvd _ (ex r) (Int.dvd_sub (Int.natCast_dvd_natCast.2 (dC _ (Nat.le_refl _))) (Int.natCast_dvd_natCast.2 (M_dvd hqa))) ?_
      have := Nat.two_pow_pos (ex r)
      generalize 2 ^ ex r = p at *
      generalize 2 ^ ex b = pb at *
      rcases hX with hX | hX <;> omega
    · have hlow := M_lower r (by omega)
      have hup := M_upper a
      have hq1 : ex r = ex a + 1 := by
        refine Nat.le_antisymm (Nat.le_of_not_lt fun hgt => ?_) (by omega)
        have p2 := pow_dbl (show ex a + 1 < ex r by omega)
        have p3 := pow_dbl (show ex a < ex a + 1 by omega)
        generalize 2 ^ ex r = p at *
        generalize 2 ^ (ex a + 1) = pm at *
        generalize 2 ^ ex a = pa at *
        rcases hX with hX | hX <;> omega
      have hpow : 2 ^ ex r = 2 * 2 ^ ex a := by rw [hq1, Nat.pow_succ, Nat.mul_comm]
      refine rep_dvd _ (ex a) (Int.dvd_sub (Int.natCast_dvd_natCast.2 (dC _ (by omega))) (Int.natCast_dvd_natCast.2 (M_dvd (Nat.le_refl _)))) ?_
      by_cases he : ex b = ex a
      · have hdv : ((2 ^ ex a : Nat) : Int) ∣ (M c : Int) - (X : Int) := Int.dvd_sub (Int.natCast_dvd_natCast.2 (dC _ (by omega))) (Int.natCast_dvd_natCast.2 (dX _ (by omega)))
        obtain ⟨k, hk⟩ := hdv
        have hk1 : ((M c : Int) - (X : Int)).natAbs = 2 ^ ex a * k.natAbs := by rw [hk, Int.natAbs_mul, Int.natAbs_natCast]
        have hk2 : k.natAbs < 2 := by
          rw [hk1, hpow, Nat.mul_comm 2] at hdist
          exact Nat.lt_of_mul_lt_mul_left hdist
        have hk3 : ((M c : Int) - (X : Int)).natAbs ≤ 2 ^ ex a := by
          rw [hk1]
          calc 2 ^ ex a * k.natAbs ≤ 2 ^ ex a * 1 := Nat.mul_le_mul_left _ (by omega)
            _ = 2 ^ ex a := Nat.mul_one _
        have hmb : M b ≤ 9007199254740991 * 2 ^ ex a := by
          unfold M
          rw [he]
          exact Nat.mul_le_mul_right _ (by have := mant_lt b; omega)
        clear hk hk1 hdist
        generalize 2 ^ ex a = pa at *
        rcases hX with hX | hX <;> omega
      · have p4 := pow_dbl (show ex b < ex a by omega)
        have := Nat.two_pow_pos (ex a)
        rw [hpow] at hdist
        generalize 2 ^ ex a = pa at *
        generalize 2 ^ ex b = pb at *
        rcases hX with hX | hX <;> omega
end Go.Proofs.Ytcgbdpgfpickaaa.Fl
namespace Go.Proofs.Ytcgbdpgfpickaaa.Fl
open Go.RowKit
open Ieee
set_option linter.unusedVariables false

theorem negB_W (s : Bool) (r : Nat) (h : r ≤ 9218868437227405312) : negB (W s r) = (s && decide (r ≠ 0)) := by
  unfold negB
  have hb := B_lt s false r 0 h (by omega)
  rw [show W false 0 = 0 from rfl] at hb
  rw [hb, val_zero]
  by_cases hr : r = 0
  · subst hr; rw [val_zero]; cases s <;> rfl
  · have := M_pos (r := r) (by omega)
    rw [decide_eq_true hr, Bool.and_true]
    unfold val
    cases s
    · exact decide_eq_false (by simp)
    · exact decide_eq_true (by simp; omega)

theorem M_one : M 1 = 1 := rfl
theorem val_signed (E : Int) (x : Bool) (d : Nat) (h : E.natAbs = M d) : val (if E = 0 then x else decide (E < 0)) d = E := by
  by_cases hz : E = 0
  · rw [if_pos hz]
    subst hz
    unfold val
    rw [← h]
    cases x <;> rfl
  · rw [if_neg hz]
    unfold val
    by_cases hn : E < 0
    · rw [decide_eq_true hn]
      simp only [if_true]
      omega
    · rw [decide_eq_false hn]
      simp only [Bool.false_eq_true, if_false]
      omega
/-- a sum has the sign of the exact one -/
theorem add_sign (s t : Bool) (a b : Nat) (ha : a < 9218868437227405312) (hb : b < 9218868437227405312) :
    ∃ sg c, c ≤ 9218868437227405312 ∧ double.add (W s a) (W t b) = some (W sg c) ∧ posB (W sg c) = decide (0 < val s a + val t b) ∧ negB (W sg c) = decide (val s a + val t b < 0) := by
  obtain ⟨r, c, h1, h2, h3, h4⟩ := add_faithful s t a b ha hb
  refine ⟨_, min c 9218868437227405312, Nat.min_le_right .., h4, ?_⟩
  rw [posB_W _ _ (Nat.min_le_right ..), negB_W _ _ (Nat.min_le_right ..)]
  generalize val s a + val t b = T at *
  by_cases hT : T = 0
  · subst hT
    have hr : r = 0 := by
      refine Nat.eq_zero_of_not_pos fun hp => ?_
      have := M_pos hp
      simp at h1
      omega
    have hc : c = 0 := by
      subst hr
      rcases h3 with h | ⟨_, h⟩
      · exact h
      · exact absurd (by simp [M_zero]) h
    subst hc
    simp
  · have hr : 0 < r := by
      refine Nat.pos_of_ne_zero fun h0 => ?_
      subst h0
      rw [show 0 + 1 = 1 from rfl, M_one] at h2
      omega
    have hc : min c 9218868437227405312 ≠ 0 := by omega
    rw [if_neg hT, decide_eq_true hc, Bool.and_true, Bool.and_true]
    refine ⟨?_, rfl⟩
    by_cases hn : T < 0
    · rw [decide_eq_true hn, decide_eq_false (by omega)]; rfl
    · rw [decide_eq_false hn, decide_eq_true (by omega)]; rfl

theorem sub_inf_fin (s t : Bool) (a : Nat) (ha : a < 9218868437227405312) : double.sub (W s 9218868437227405312) (W t a) = some (W s 9218868437227405312) := by
  unfold Format.sub
  rw [read_inf, read_fin t a ha]
  cases s <;> rfl
theorem sub_fin_inf (s t : Bool) (a : Nat) (ha : a < 9218868437227405312) : double.sub (W t a) (W s 9218868437227405312) = some (W (!s) 9218868437227405312) := by
  unfold Format.sub
  rw [read_inf, read_fin t a ha]
  cases s <;> rfl

theorem err41_swap (a b s t o : Nat) (w : World) (h : (FloatKind.f64.format.order (absN a) (absN b) == some .lt) = true) (h1 : double.sub s b = some t) (h2 : double.sub a t = some o) :
    Calls Try.prog 53 #[.float .f64 a, .float .f64 b, .float .f64 s] w fun e w' => e = .returned (.float .f64 o) ∧ w' = w := by
  have g1 := sub_run w _ _ _ h1
  have g2 := sub_run w _ _ _ h2
  clear h1 h2
  go_enter Try.func53, Try.ntmps53
  go_wp2_with (go_at_call 19; refine (abs16 _ _).mono ?_; rintro e w' ⟨rfl, rfl⟩)
  go_ret
  exact ⟨rfl, rfl⟩

/-- what the error says: the greater size first -/
theorem err_says (s t : Bool) (a b r c : Nat) (ha : a < 9218868437227405312) (hab : b ≤ a) (hT : val s a + val t b ≠ 0)
    (h1 : M r ≤ (val s a + val t b).natAbs) (h2 : (val s a + val t b).natAbs < M (r + 1)) (h3 : c = r ∨ (c = r + 1 ∧ (val s a + val t b).natAbs ≠ M r)) :
    ∃ y o, double.sub (W (decide (val s a + val t b < 0)) (min c 9218868437227405312)) (W s a) = some y ∧ double.sub (W t b) y = some o ∧
      (if decide (val s a + val t b < 0) then negB o else posB o) = decide (min c 9218868437227405312 < 9218868437227405312 ∧ M (min c 9218868437227405312) * 1 < (val s a + val t b).natAbs) ∧
      (if decide (val s a + val t b < 0) then posB o else negB o) = decide (min c 9218868437227405312 = 9218868437227405312 ∨ (val s a + val t b).natAbs < M (min c 9218868437227405312) * 1) := by
  have hAB := M_le hab
  have hA := M_lt ha
  have hvs : decide (val s a + val t b < 0) = s := by
    unfold val at *
    cases s <;> cases t <;> simp only [Bool.false_eq_true, if_false, if_true] at *
    · exact decide_eq_false (by omega)
    · exact decide_eq_false (by omega)
    · exact decide_eq_true (by omega)
    · exact decide_eq_true (by omega)
  rw [hvs]
  by_cases hc : 9218868437227405312 ≤ c
  · have e : min c 9218868437227405312 = 9218868437227405312 := by omega
    rw [e]
    refine ⟨_, _, sub_inf_fin s s a ha, sub_fin_inf s t b (by omega), ?_, ?_⟩
    · rw [negB_W _ _ (by omega), posB_W _ _ (by omega), decide_eq_false (p := 9218868437227405312 < 9218868437227405312 ∧ _) (by omega)]
      cases s <;> rfl
    · rw [negB_W _ _ (by omega), posB_W _ _ (by omega), decide_eq_true (p := 9218868437227405312 = 9218868437227405312 ∨ _) (Or.inl rfl)]
      cases s <;> rfl
  · have e : min c 9218868437227405312 = c := by omega
    rw [e]
    have hX : (val s a + val t b).natAbs = M a + M b ∨ (val s a + val t b).natAbs + M b = M a := by
      unfold val
      cases s <;> cases t <;> simp only [Bool.false_eq_true, if_false, if_true] <;> omega
    obtain ⟨d, hd⟩ := first_exact a b r c _ hab hX h1 h2 h3
    have hC := M_lt (show c < 9218868437227405312 by omega)
    have hdI : d < 9218868437227405312 := by
      refine M_lt_iff.1 ?_
      rw [hd]
      omega
    have hdv : (val s c + val (!s) a).natAbs = M d := by
      rw [hd, val_not]
      unfold val
      cases s <;> simp only [Bool.false_eq_true, if_false, if_true] <;> omega
    have g1 := add_exact s (!s) c a d (by omega) ha (by omega) hdv
    rw [← sub_W s s c a ha] at g1
    generalize hsy : (if val s c + val (!s) a = 0 then s && !s else decide (val s c + val (!s) a < 0)) = sy at g1
    have hvy : val sy d = val s c - val s a := by
      rw [← hsy, val_signed _ _ _ hdv, val_not]
      rfl
    obtain ⟨so, co, hco, g2, g3, g4⟩ := add_sign t (!sy) b d (by omega) hdI
    rw [← sub_W t sy b d hdI] at g2
    refine ⟨_, _, g1, g2, ?_, ?_⟩
    · rw [g3, g4, val_not, hvy]
      rw [Bool.eq_iff_iff]
      unfold val at *
      cases s <;> cases t <;> simp only [Bool.false_eq_true, if_false, if_true, decide_eq_true_eq, decide_eq_false_iff_not] at * <;> omega
    · rw [g3, g4, val_not, hvy]
      rw [Bool.eq_iff_iff]
      unfold val at *
      cases s <;> cases t <;> simp only [Bool.false_eq_true, if_false, if_true, decide_eq_true_eq, decide_eq_false_iff_not] at * <;> omega
end Go.Proofs.Ytcgbdpgfpickaaa.Fl
