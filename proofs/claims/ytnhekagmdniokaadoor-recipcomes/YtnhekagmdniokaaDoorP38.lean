import Derived.Test.YtnhekagmdniokaaDoorP37
namespace Go.Proofs.YtnhekagmdniokaaDoor
open Go.RowKit
set_option linter.unusedVariables false
set_option linter.unusedSimpArgs false

/-- what is left behind k steps -/
def Cn (D P : Int) (k : Nat) (E : Int) : Prop :=
  (k = 0 ∧ 64 * E ≤ 48 * P) ∨ (k = 1 ∧ 64 * E ≤ 38 * P) ∨ (k = 2 ∧ 64 * E ≤ 25 * P) ∨ (k = 3 ∧ 64 * E ≤ 12 * P) ∨
  (∃ j m : Nat, k = j + 4 ∧ 2 ^ j ≤ m ∧ 4 ≤ m ∧ 2 * (((2 ^ m : Nat) : Int) * E) ≤ 2 * P + 3 * (((2 ^ m : Nat) : Int) * D))
def Cm (D O P : Int) (k : Nat) (r : Int) : Prop := 2 + (k : Int) ≤ r ∧ r ≤ O ∧ (43 * D ≤ P → Cn D P k (P - D * r))

theorem cn_few {D P E E' : Int} {a a' : Int} (hP : 0 < P) (hE0 : 0 ≤ E) (ha : 0 ≤ a) (h43 : 43 * D ≤ P) (hE : 64 * E ≤ a * P) (hs : E' * P < E * E + D * P) (haa : a * a + 96 ≤ 64 * a') : 64 * E' ≤ a' * P := by
  have h1 : (64 * E) * (64 * E) ≤ (a * P) * (a * P) := Int.mul_le_mul hE hE (by omega) (Int.mul_nonneg ha (by omega))
  have h2 : 4096 * (D * P) ≤ 96 * (P * P) := by
    have : 43 * D * P ≤ P * P := Int.mul_le_mul_of_nonneg_right h43 (by omega)
    have e : 43 * D * P = 43 * (D * P) := Int.mul_assoc _ _ _
    have hPP : 0 ≤ P * P := Int.mul_nonneg (by omega) (by omega)
    omega
  have h3 : 4096 * (E' * P) ≤ (a * a + 96) * (P * P) := by
    have e1 : (64 * E) * (64 * E) = 4096 * (E * E) := by grind
    have e2 : (a * P) * (a * P) = (a * a) * (P * P) := by grind
    have e3 : (a * a + 96) * (P * P) = (a * a) * (P * P) + 96 * (P * P) := by grind
    omega
  have h4 : (a * a + 96) * (P * P) ≤ 64 * a' * (P * P) := Int.mul_le_mul_of_nonneg_right haa (Int.mul_nonneg (by omega) (by omega))
  have h5 : (64 * E') * (64 * P) ≤ (a' * P) * (64 * P) := by
    have e1 : (64 * E') * (64 * P) = 4096 * (E' * P) := by grind
    have e2 : (a' * P) * (64 * P) = 64 * a' * (P * P) := by grind
    omega
  exact Int.le_of_mul_le_mul_right h5 (by omega)
theorem cn_sq {D P E E' M : Int} (hP : 0 < P) (hD : 0 < D) (hE0 : 0 ≤ E) (h43 : 43 * D ≤ P) (hM : 16 ≤ M) (hE : 2 * (M * E) ≤ 2 * P + 3 * (M * D)) (hs : E' * P < E * E + D * P) : 2 * (M * M * E') ≤ 2 * P + 3 * (M * M * D) := by
  have hME : 0 ≤ M * E := Int.mul_nonneg (by omega) hE0
  have h1 : (2 * (M * E)) * (2 * (M * E)) ≤ (2 * P + 3 * (M * D)) * (2 * P + 3 * (M * D)) := Int.mul_le_mul hE hE (by omega) (by omega)
  have hMM : 0 ≤ M * M := Int.mul_nonneg (by omega) (by omega)
  have h2 : M * M * (E' * P) ≤ M * M * (E * E + D * P) := Int.mul_le_mul_of_nonneg_left (by omega) hMM
  have h3 : 12 * P + 9 * (M * D) ≤ 2 * (M * P) := by
    have a1 : 16 * P ≤ M * P := Int.mul_le_mul_of_nonneg_right hM (by omega)
    have a2 : M * (43 * D) ≤ M * P := Int.mul_le_mul_of_nonneg_left h43 (by omega)
    have a3 : M * (43 * D) = 43 * (M * D) := by grind
    have a4 : 0 ≤ M * D := Int.mul_nonneg (by omega) (by omega)
    omega
  have hMD : 0 ≤ M * D := Int.mul_nonneg (by omega) (by omega)
  have h4 : M * D * (12 * P + 9 * (M * D)) ≤ M * D * (2 * (M * P)) := Int.mul_le_mul_of_nonneg_left h3 hMD
  have h5 : (2 * (M * M * E')) * (2 * P) ≤ (2 * P + 3 * (M * M * D)) * (2 * P) := by
    have e1 : (2 * (M * M * E')) * (2 * P) = 4 * (M * M * (E' * P)) := by grind
    have e2 : (2 * P + 3 * (M * M * D)) * (2 * P) = 4 * (P * P) + 6 * (M * M * (D * P)) := by grind
    have e3 : (2 * (M * E)) * (2 * (M * E)) = 4 * (M * M * (E * E)) := by grind
    have e4 : (2 * P + 3 * (M * D)) * (2 * P + 3 * (M * D)) = 4 * (P * P) + M * D * (12 * P + 9 * (M * D)) := by grind
    have e5 : M * D * (2 * (M * P)) = 2 * (M * M * (D * P)) := by grind
    have e6 : M * M * (E * E + D * P) = M * M * (E * E) + M * M * (D * P) := by grind
    omega
  exact Int.le_of_mul_le_mul_right h5 (by omega)
theorem cn_step {D P E E' : Int} {k : Nat} (hP : 0 < P) (hD : 0 < D) (hE0 : 0 ≤ E) (h43 : 43 * D ≤ P) (h : Cn D P k E) (hs : E' * P < E * E + D * P) : Cn D P (k + 1) E' := by
  rcases h with ⟨rfl, h⟩ | ⟨rfl, h⟩ | ⟨rfl, h⟩ | ⟨rfl, h⟩ | ⟨j, m, rfl, h1, h2, h⟩
  · exact Or.inr (Or.inl ⟨rfl, cn_few hP hE0 (by decide) h43 h hs (by decide)⟩)
  · exact Or.inr (Or.inr (Or.inl ⟨rfl, cn_few hP hE0 (by decide) h43 h hs (by decide)⟩))
  · exact Or.inr (Or.inr (Or.inr (Or.inl ⟨rfl, cn_few hP hE0 (by decide) h43 h hs (by decide)⟩)))
  · have := cn_few (a' := 4) hP hE0 (by decide) h43 h hs (by decide)
    exact Or.inr (Or.inr (Or.inr (Or.inr ⟨0, 4, rfl, by decide, by decide, by
      rw [show ((2 ^ 4 : Nat) : Int) = 16 from rfl]
      omega⟩)))
  · have hM : (16 : Int) ≤ ((2 ^ m : Nat) : Int) := by
      have : 2 ^ 4 ≤ 2 ^ m := Nat.pow_le_pow_right (by omega) h2
      omega
    have := cn_sq hP hD hE0 h43 hM h hs
    refine Or.inr (Or.inr (Or.inr (Or.inr ⟨j + 1, m + m, by omega, ?_, by omega, ?_⟩)))
    · rw [Nat.pow_succ]; omega
    · rw [Nat.pow_add, Int.natCast_mul]
      exact this
theorem cm_rise {D O P r : Int} {k : Nat} (hP : 0 < P) (hD : 0 < D) (hO : D * O ≤ P) (h : Cm D O P k r) : r ≤ stp D r P := by
  have h1 : D * r ≤ P := Int.le_trans (Int.mul_le_mul_of_nonneg_left h.2.1 (by omega)) hO
  unfold stp
  have : 0 ≤ r * (P - D * r) / P := Int.ediv_nonneg (Int.mul_nonneg (by have := h.1; omega) (by omega)) (by omega)
  omega
theorem cm_step {D O P r : Int} {k : Nat} (hP : 0 < P) (hD : 0 < D) (hO : D * O ≤ P) (h : Cm D O P k r) (hle : stp D r P ≤ O) (hne : stp D r P ≠ r) : Cm D O P (k + 1) (stp D r P) := by
  have h0 := cm_rise hP hD hO h
  have h1 : D * r ≤ P := Int.le_trans (Int.mul_le_mul_of_nonneg_left h.2.1 (by omega)) hO
  have h2 := (stp_left (r := r) hD hP).2
  refine ⟨by have := h.1; omega, hle, fun h43 => ?_⟩
  exact cn_step hP hD (by omega) h43 (h.2.2 h43) h2
theorem cm_fix {D O P r : Int} {k : Nat} (hP : 0 < P) (hD : 0 < D) (hO : D * O ≤ P) (h : Cm D O P k r) (he : stp D r P = r) : O - r ≤ 1 := by
  have h1 : D * r ≤ P := Int.le_trans (Int.mul_le_mul_of_nonneg_left h.2.1 (by omega)) hO
  have hr := h.1
  unfold stp at he
  have h2 : r * (P - D * r) / P = 0 := by omega
  have h3 : r * (P - D * r) < P := by
    have := Int.lt_mul_ediv_self_add (x := r * (P - D * r)) hP
    rw [h2] at this
    omega
  refine Int.not_lt.1 fun hlt => ?_
  have h4 : D * (r + 2) ≤ P := Int.le_trans (Int.mul_le_mul_of_nonneg_left (by omega) (by omega)) hO
  have h5 : r * (2 * D) ≤ r * (P - D * r) := Int.mul_le_mul_of_nonneg_left (by rw [Int.mul_add] at h4; omega) (by omega)
  obtain ⟨E, hE⟩ : ∃ E, P - D * r = E := ⟨_, rfl⟩
  rw [hE] at h3 h5
  have h6 : 2 * E ≤ r * E := Int.mul_le_mul_of_nonneg_right (by omega) (by omega)
  have e1 : r * (2 * D) = 2 * (D * r) := by grind
  omega
theorem cm_end {D O r : Int} {b : Nat} (hb : b ≤ 1199) (hD : 0 < D) (hO : D * O ≤ ((2 ^ b : Nat) : Int)) (h : Cm D O ((2 ^ b : Nat) : Int) 40 r) : O - r ≤ 1 := by
  obtain ⟨h1, h2, h3⟩ := h
  by_cases h43 : 43 * D ≤ ((2 ^ b : Nat) : Int)
  · have hc := h3 h43
    rcases hc with ⟨h, _⟩ | ⟨h, _⟩ | ⟨h, _⟩ | ⟨h, _⟩ | ⟨j, m, hj, h4, h5, h6⟩
    · omega
    · omega
    · omega
    · omega
    · have hj36 : j = 36 := by omega
      subst hj36
      have hm : b + 2 ≤ m := by
        have : (2 : Nat) ^ 36 = 68719476736 := by decide
        omega
      have hp : 4 * 2 ^ b ≤ 2 ^ m := by
        have := Nat.pow_le_pow_right (n := 2) (by omega) hm
        rw [Nat.pow_add] at this
        omega
      have hbp := Nat.two_pow_pos b
      clear h4 h3
      generalize 2 ^ b = P at *
      have hMp := Nat.two_pow_pos m
      generalize 2 ^ m = M at *
      obtain ⟨E, hE⟩ : ∃ E, (P : Int) - D * r = E := ⟨_, rfl⟩
      rw [hE] at h6
      have h7 : 2 * E ≤ 3 * D := by
        refine Int.not_lt.1 fun hlt => ?_
        have a1 : (M : Int) * (3 * D + 1) ≤ (M : Int) * (2 * E) := Int.mul_le_mul_of_nonneg_left (by omega) (by omega)
        have e1 : (M : Int) * (3 * D + 1) = 3 * ((M : Int) * D) + M := by grind
        have e2 : (M : Int) * (2 * E) = 2 * ((M : Int) * E) := by grind
        omega
      refine Int.not_lt.1 fun hlt => ?_
      have h8 : D * (r + 2) ≤ (P : Int) := Int.le_trans (Int.mul_le_mul_of_nonneg_left (by omega) (by omega)) hO
      rw [Int.mul_add] at h8
      omega
  · have : O < 43 := by
      refine Int.not_le.1 fun hle => ?_
      have : D * 43 ≤ D * O := Int.mul_le_mul_of_nonneg_left hle (by omega)
      omega
    omega
theorem cm_start {D b L : Nat} (hD : 0 < D) (hL : 3 ≤ L) (h1 : 2 ^ (L - 1) ≤ 2 ^ b / D) (h2 : 2 ^ b / D < 2 ^ L) : Cm (D : Int) ((2 ^ b / D : Nat) : Int) ((2 ^ b : Nat) : Int) 0 ((2 ^ (L - 2) : Nat) : Int) := by
  obtain ⟨l, rfl⟩ : ∃ l, L = l + 3 := ⟨L - 3, by omega⟩
  have d2 := Nat.lt_mul_div_succ (2 ^ b) hD
  generalize 2 ^ b / D = O at *
  generalize 2 ^ b = P at *
  have e1 : 2 ^ (l + 3 - 2) = 2 ^ l * 2 := by rw [show l + 3 - 2 = l + 1 by omega, Nat.pow_succ]
  have e2 : 2 ^ (l + 3 - 1) = 2 ^ l * 4 := by rw [show l + 3 - 1 = l + 2 by omega, Nat.pow_add]
  have e3 : 2 ^ (l + 3) = 2 ^ l * 8 := by rw [Nat.pow_add]
  rw [e2] at h1
  rw [e3] at h2
  rw [e1]
  have hp := Nat.two_pow_pos l
  generalize 2 ^ l = T at *
  refine ⟨by omega, by omega, fun _ => Or.inl ⟨rfl, ?_⟩⟩
  have h3 : D * (O + 1) ≤ D * (T * 8) := Nat.mul_le_mul_left _ (by omega)
  have e4 : D * (T * 8) = 8 * (D * T) := by grind
  have e5 : (D : Int) * ((T * 2 : Nat) : Int) = ((2 * (D * T) : Nat) : Int) := by push_cast; grind
  rw [e5]
  generalize D * T = x at *
  generalize D * (O + 1) = y at *
  omega

theorem nzTellC (s : Bool) (ad : Option Addr) (n cap : Nat) (e X : Int) (M : Nat) (w : World) (h : Nz w s ad n cap e X M) (hM : M ≤ 1048576) (hX : X.natAbs < TopN) :
    Calls Tryd.prog 14 #[.agg #[.bool s, .slice ad n cap, .int .i64 e]] w fun r w' => ∃ a b c d ok, r = .returned (.tuple #[.agg #[.bool a, .slice b c d], .bool ok]) ∧ Wh w' a b c d X ∧ Gr w w' := by
  obtain ⟨m, h1, h2, h3, h4, h5⟩ := h
  obtain ⟨k, rfl⟩ : ∃ k : Nat, e = (k : Int) := ⟨e.toNat, by omega⟩
  have e1 : iv s (m * 2 ^ k) = X := by
    rw [← h4]
    unfold sv iv
    rw [show ((k : Int) + 0).toNat = k by omega]
  refine (tellB s ad n cap m k w h1 (Nat.le_trans (bl_z (sv_mz h4) h5) (by omega)) (by omega)).mono ?_
  rintro r w' ⟨a, b, c, d, ok, rfl, hT, g⟩
  refine ⟨a, b, c, d, ok, rfl, ?_, g⟩
  have hT := hT.out
  rw [e1] at hT
  rcases hT with ⟨_, _, hh⟩ | ⟨hh, _⟩
  · exact hh
  · exact absurd hX (Nat.not_lt.2 hh)
theorem nzBits (s : Bool) (ad : Option Addr) (n cap : Nat) (X : Nat) (w : World) (h : Wh w s ad n cap (X : Int)) : Calls Tryd.prog 13 #[.slice ad n cap] w fun e w' => e = .returned (.int .i64 (bl X : Int)) ∧ Gr w w' := by
  have h1 := topN_bl.2 h.lt
  have h2 := h.lim
  rw [Int.natAbs_natCast] at h1 h2
  exact bits73 ad n cap X w h2 (by omega)
end Go.Proofs.YtnhekagmdniokaaDoor
