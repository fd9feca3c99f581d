import Derived.Test.YteompnpfoplppaaD15
namespace Go.Proofs.Yteompnpfoplppaa
open Go.RowKit
open Ieee
set_option linter.unusedVariables false

/-- not above, where both are numbers -/
def LeV (v v' : Nat) : Prop := NanW v ∨ NanW v' ∨ ∃ s a t b, v = W s a ∧ v' = W t b ∧ a ≤ 9218868437227405312 ∧ b ≤ 9218868437227405312 ∧ val s a ≤ val t b
theorem leV_not {v v' : Nat} (h : LeV v v') : (FloatKind.f64.format.order v v' == some .gt) = false := by
  rcases h with ⟨s, r, rfl, h1, h2⟩ | ⟨s, r, rfl, h1, h2⟩ | ⟨s, a, t, b, rfl, rfl, h1, h2, h3⟩
  · rw [f64_format, order_nan_left s r _ h2 h1]; rfl
  · rw [f64_format, order_nan_right s r _ h2 h1]; rfl
  · rw [B_gt s t a b h1 h2]
    exact decide_eq_false (by omega)

theorem val_le_top (s : Bool) (a : Nat) (ha : a ≤ 9218868437227405312) : val s a ≤ val false 9218868437227405312 := by
  have h := M_le ha
  unfold val
  generalize M 9218868437227405312 = k at *
  cases s <;> simp only [Bool.false_eq_true, if_false, if_true] <;> omega
theorem bot_le_val (s : Bool) (a : Nat) (ha : a ≤ 9218868437227405312) : val true 9218868437227405312 ≤ val s a := by
  have h := M_le ha
  unfold val
  generalize M 9218868437227405312 = k at *
  cases s <;> simp only [Bool.false_eq_true, if_false, if_true] <;> omega
theorem val_neg_le (r : Nat) : val true r ≤ 0 := by unfold val; simp
theorem val_pos_le (r : Nat) : 0 ≤ val false r := by unfold val; simp

theorem dir_mono2 {o1 o2 : Bool} {N D r N' D' r' : Nat} (ho : o1 = true → o2 = true) (hD : 0 < D) (hD' : 0 < D') (h : Dir o1 N D r) (h' : Dir o2 N' D' r') (hle : N * D' ≤ N' * D) : r ≤ r' := by
  cases o1 <;> cases o2
  · exact dir_mono hD hD' h h' hle
  · refine Nat.le_of_not_lt fun hlt => ?_
    have h : DirDn N D r := h
    have h' : DirUp N' D' r' := h'
    have h1 := h'.2.1 (by have := h.1; omega)
    have h2 := h.2.1
    have h3 : M r' * D' < M r * D' := Nat.mul_lt_mul_of_pos_right (M_lt hlt) hD'
    have h4 : N' * D < M r * D' * D := Nat.mul_lt_mul_of_pos_right (Nat.lt_of_le_of_lt h1 h3) hD
    have h5 : M r * D * D' ≤ N * D' := Nat.mul_le_mul_right _ h2
    rw [Nat.mul_right_comm] at h4
    omega
  · exact absurd (ho rfl) (by simp)
  · exact dir_mono hD hD' h h' hle
theorem dir_le {out : Bool} {N D r : Nat} (h : Dir out N D r) : r ≤ 9218868437227405312 := by
  unfold Dir at h
  cases out
  · have := h.1; omega
  · exact h.1

theorem add_inf_c (s u : Bool) (a : Nat) (ha : a ≤ 9218868437227405312) : double.add (W s a) (W u 9218868437227405312) = some (W u 9218868437227405312) ∨ double.add (W s a) (W u 9218868437227405312) = none := by
  unfold Format.add
  by_cases h : a < 9218868437227405312
  · rw [read_fin s a h, read_inf]
    left
    cases u <;> rfl
  · have : a = 9218868437227405312 := by omega
    subst this
    rw [read_inf, read_inf]
    cases s <;> cases u <;> first | (left; rfl) | (right; rfl)
theorem add_inf_fin (s u : Bool) (c : Nat) (hc : c < 9218868437227405312) : double.add (W s 9218868437227405312) (W u c) = some (W s 9218868437227405312) := by
  unfold Format.add
  rw [read_fin u c hc, read_inf]
  cases s <;> rfl
theorem okR_cases {o : Option Nat} {x v : Nat} (h : o = some x ∨ o = none) (hv : OkR o v) : v = x ∨ NanW v := by
  rcases h with h | h
  · rw [h] at hv; exact Or.inl hv
  · rw [h] at hv; exact Or.inr hv

/-- SUMS GROW -/
theorem add_grows (s t u : Bool) (a b c : Nat) (up1 up2 : Bool) (hup : up1 = true → up2 = true) (ha : a ≤ 9218868437227405312) (hb : b ≤ 9218868437227405312) (hc : c ≤ 9218868437227405312)
    (hle : val s a ≤ val t b) (o o' : Option Nat) (h : AddSpec s a u c up1 o) (h' : AddSpec t b u c up2 o') : ∀ v v', OkR o v → OkR o' v' → LeV v v' := by
  intro v v' hv hv'
  unfold AddSpec at h h'
  by_cases hcI : c = 9218868437227405312
  · subst hcI
    rw [if_neg (by omega)] at h h'
    have k1 := okR_cases (add_inf_c s u a ha) (h ▸ hv)
    have k2 := okR_cases (add_inf_c t u b hb) (h' ▸ hv')
    rcases k1 with k1 | k1
    · rcases k2 with k2 | k2
      · exact Or.inr (Or.inr ⟨u, _, u, _, k1, k2, by omega, by omega, Int.le_refl _⟩)
      · exact Or.inr (Or.inl k2)
    · exact Or.inl k1
  have hcf : c < 9218868437227405312 := by omega
  by_cases haI : a = 9218868437227405312
  · subst haI
    rw [if_neg (by omega), add_inf_fin s u c hcf] at h
    rw [h] at hv
    have hv : v = W s 9218868437227405312 := hv
    cases s
    · -- then b is that infinity, too
      have hbI : t = false ∧ b = 9218868437227405312 := by
        have hpos := M_pos (r := 9218868437227405312) (by omega)
        refine ⟨?_, ?_⟩
        · cases t
          · rfl
          · exfalso
            have := val_neg_le b
            unfold val at hle this
            simp only [Bool.false_eq_true, if_false, if_true] at hle this
            generalize M 9218868437227405312 = k at *
            omega
        · refine Nat.le_antisymm hb (Nat.le_of_not_lt fun hlt => ?_)
          have h1 := M_lt hlt
          unfold val at hle
          generalize M 9218868437227405312 = k at *
          cases t <;> simp only [Bool.false_eq_true, if_false, if_true] at hle <;> omega
      obtain ⟨rfl, rfl⟩ := hbI
      rw [if_neg (by omega), add_inf_fin false u c hcf] at h'
      rw [h'] at hv'
      exact Or.inr (Or.inr ⟨false, _, false, _, hv, hv', by omega, by omega, Int.le_refl _⟩)
    · by_cases hbI : b = 9218868437227405312
      · subst hbI
        rw [if_neg (by omega), add_inf_fin t u c hcf] at h'
        rw [h'] at hv'
        exact Or.inr (Or.inr ⟨true, _, t, _, hv, hv', by omega, by omega, hle⟩)
      · rw [if_pos ⟨by omega, hcf⟩] at h'
        by_cases hT : val t b + val u c = 0
        · rw [if_pos hT] at h'
          rw [h'] at hv'
          have hv' : v' = _ := hv'
          by_cases htu : t = u
          · rw [if_pos htu] at hv'
            exact Or.inr (Or.inr ⟨true, _, _, _, hv, hv', by omega, hb, bot_le_val _ _ hb⟩)
          · rw [if_neg htu] at hv'
            exact Or.inr (Or.inr ⟨true, _, _, _, hv, hv', by omega, by omega, bot_le_val _ _ (by omega)⟩)
        · rw [if_neg hT] at h'
          obtain ⟨r, h1, h2⟩ := h'
          rw [h1] at hv'
          exact Or.inr (Or.inr ⟨true, _, _, _, hv, hv', by omega, dir_le h2, bot_le_val _ _ (dir_le h2)⟩)
  have haf : a < 9218868437227405312 := by omega
  rw [if_pos ⟨haf, hcf⟩] at h
  -- what the first comes to
  have first : ∃ sg r, v = W sg r ∧ r ≤ 9218868437227405312 ∧ ((val s a + val u c = 0 ∧ val sg r = 0) ∨ (val s a + val u c ≠ 0 ∧ sg = decide (val s a + val u c < 0) ∧ Dir (up1 != sg) (val s a + val u c).natAbs 1 r)) := by
    by_cases hT : val s a + val u c = 0
    · rw [if_pos hT] at h
      rw [h] at hv
      have hv : v = _ := hv
      by_cases hsu : s = u
      · rw [if_pos hsu] at hv
        have h0 : a = 0 := by
          refine Nat.eq_zero_of_not_pos fun hp => ?_
          have := M_pos hp
          subst hsu
          unfold val at hT
          cases s <;> simp only [Bool.false_eq_true, if_false, if_true] at hT <;> omega
        exact ⟨s, a, hv, ha, Or.inl ⟨hT, by rw [h0, val_zero]⟩⟩
      · rw [if_neg hsu] at hv
        exact ⟨_, 0, hv, by omega, Or.inl ⟨hT, val_zero _⟩⟩
    · rw [if_neg hT] at h
      obtain ⟨r, h1, h2⟩ := h
      rw [h1] at hv
      exact ⟨_, r, hv, dir_le h2, Or.inr ⟨hT, rfl, h2⟩⟩
  obtain ⟨sg, r, hv, hr, hk⟩ := first
  by_cases hbI : b = 9218868437227405312
  · subst hbI
    rw [if_neg (by omega), add_inf_fin t u c hcf] at h'
    rw [h'] at hv'
    cases t
    · exact Or.inr (Or.inr ⟨sg, r, false, _, hv, hv', hr, by omega, val_le_top _ _ hr⟩)
    · exfalso
      have h1 := M_lt haf
      unfold val at hle
      generalize M 9218868437227405312 = k at *
      cases s <;> simp only [Bool.false_eq_true, if_false, if_true] at hle <;> omega
  have hbf : b < 9218868437227405312 := by omega
  rw [if_pos ⟨hbf, hcf⟩] at h'
  have second : ∃ sg r, v' = W sg r ∧ r ≤ 9218868437227405312 ∧ ((val t b + val u c = 0 ∧ val sg r = 0) ∨ (val t b + val u c ≠ 0 ∧ sg = decide (val t b + val u c < 0) ∧ Dir (up2 != sg) (val t b + val u c).natAbs 1 r)) := by
    by_cases hT : val t b + val u c = 0
    · rw [if_pos hT] at h'
      rw [h'] at hv'
      have hv' : v' = _ := hv'
      by_cases hsu : t = u
      · rw [if_pos hsu] at hv'
        have h0 : b = 0 := by
          refine Nat.eq_zero_of_not_pos fun hp => ?_
          have := M_pos hp
          subst hsu
          unfold val at hT
          cases t <;> simp only [Bool.false_eq_true, if_false, if_true] at hT <;> omega
        exact ⟨t, b, hv', hb, Or.inl ⟨hT, by rw [h0, val_zero]⟩⟩
      · rw [if_neg hsu] at hv'
        exact ⟨_, 0, hv', by omega, Or.inl ⟨hT, val_zero _⟩⟩
    · rw [if_neg hT] at h'
      obtain ⟨r, h1, h2⟩ := h'
      rw [h1] at hv'
      exact ⟨_, r, hv', dir_le h2, Or.inr ⟨hT, rfl, h2⟩⟩
  obtain ⟨sg', r', hv', hr', hk'⟩ := second
  refine Or.inr (Or.inr ⟨sg, r, sg', r', hv, hv', hr, hr', ?_⟩)
  have hTT : val s a + val u c ≤ val t b + val u c := by omega
  clear h h' hle
  generalize val s a + val u c = T at *
  generalize val t b + val u c = T' at *
  have neg1 : T < 0 → val sg r ≤ 0 := by
    intro hn
    rcases hk with ⟨h1, h2⟩ | ⟨h1, rfl, h3⟩
    · omega
    · rw [decide_eq_true hn]; exact val_neg_le _
  have pos1 : 0 < T' → 0 ≤ val sg' r' := by
    intro hn
    rcases hk' with ⟨h1, h2⟩ | ⟨h1, rfl, h3⟩
    · omega
    · rw [decide_eq_false (by omega)]; exact val_pos_le _
  rcases hk with ⟨h1, h2⟩ | ⟨h1, hs1, h3⟩
  · rcases hk' with ⟨g1, g2⟩ | ⟨g1, hs2, g3⟩
    · omega
    · have := pos1 (by omega); omega
  · rcases hk' with ⟨g1, g2⟩ | ⟨g1, hs2, g3⟩
    · have := neg1 (by omega); omega
    · by_cases hn : T < 0
      · by_cases hn' : T' < 0
        · rw [decide_eq_true hn] at hs1
          rw [decide_eq_true hn'] at hs2
          subst hs1 hs2
          have hrr : r' ≤ r := dir_mono2 (by cases up1 <;> cases up2 <;> simp at hup ⊢) (by omega) (by omega) g3 h3 (by omega)
          have := M_le hrr
          unfold val
          simp only [if_true]
          omega
        · have := neg1 hn
          have := pos1 (by omega)
          omega
      · rw [decide_eq_false hn] at hs1
        rw [decide_eq_false (by omega)] at hs2
        subst hs1 hs2
        have hrr : r ≤ r' := dir_mono2 (by cases up1 <;> cases up2 <;> simp at hup ⊢) (by omega) (by omega) h3 g3 (by omega)
        have := M_le hrr
        unfold val
        simp only [Bool.false_eq_true, if_false]
        omega
end Go.Proofs.Yteompnpfoplppaa
