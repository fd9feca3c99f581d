import Derived.Test.YteompnpfoplppaaD1
namespace Go.Proofs.Yteompnpfoplppaa
open Go.RowKit
open Ieee
set_option linter.unusedVariables false

theorem negB_W (s : Bool) (r : Nat) (h : r ≤ 9218868437227405312) : negB (W s r) = (s && decide (r ≠ 0)) := by
  unfold negB
  have hb := B_lt s false r 0 h (by omega)
  rw [show W false 0 = 0 from rfl] at hb
  rw [hb, val_zero]
  by_cases hr : r = 0
  · subst hr; rw [val_zero]; cases s <;> rfl
  · have := M_pos (r := r) (by omega)
    rw [decide_eq_true hr, Bool.and_true]
    unfold val
    cases s
    · exact decide_eq_false (by simp)
    · exact decide_eq_true (by simp; omega)

theorem M_one : M 1 = 1 := rfl
theorem val_signed (E : Int) (x : Bool) (d : Nat) (h : E.natAbs = M d) : val (if E = 0 then x else decide (E < 0)) d = E := by
  by_cases hz : E = 0
  · rw [if_pos hz]
    subst hz
    unfold val
    rw [← h]
    cases x <;> rfl
  · rw [if_neg hz]
    unfold val
    by_cases hn : E < 0
    · rw [decide_eq_true hn]
      simp only [if_true]
      omega
    · rw [decide_eq_false hn]
      simp only [Bool.false_eq_true, if_false]
      omega
/-- a sum has the sign of the exact one -/
theorem add_sign (s t : Bool) (a b : Nat) (ha : a < 9218868437227405312) (hb : b < 9218868437227405312) :
    ∃ sg c, c ≤ 9218868437227405312 ∧ double.add (W s a) (W t b) = some (W sg c) ∧ posB (W sg c) = decide (0 < val s a + val t b) ∧ negB (W sg c) = decide (val s a + val t b < 0) := by
  obtain ⟨r, c, h1, h2, h3, h4⟩ := add_faithful s t a b ha hb
  refine ⟨_, min c 9218868437227405312, Nat.min_le_right .., h4, ?_⟩
  rw [posB_W _ _ (Nat.min_le_right ..), negB_W _ _ (Nat.min_le_right ..)]
  generalize val s a + val t b = T at *
  by_cases hT : T = 0
  · subst hT
    have hr : r = 0 := by
      refine Nat.eq_zero_of_not_pos fun hp => ?_
      have := M_pos hp
      simp at h1
      omega
    have hc : c = 0 := by
      subst hr
      rcases h3 with h | ⟨_, h⟩
      · exact h
      · exact absurd (by simp [M_zero]) h
    subst hc
    simp
  · have hr : 0 < r := by
      refine Nat.pos_of_ne_zero fun h0 => ?_
      subst h0
      rw [show 0 + 1 = 1 from rfl, M_one] at h2
      omega
    have hc : min c 9218868437227405312 ≠ 0 := by omega
    rw [if_neg hT, decide_eq_true hc, Bool.and_true, Bool.and_true]
    refine ⟨?_, rfl⟩
    by_cases hn : T < 0
    · rw [decide_eq_true hn, decide_eq_false (by omega)]; rfl
    · rw [decide_eq_false hn, decide_eq_true (by omega)]; rfl

theorem sub_inf_fin (s t : Bool) (a : Nat) (ha : a < 9218868437227405312) : double.sub (W s 9218868437227405312) (W t a) = some (W s 9218868437227405312) := by
  unfold Format.sub
  rw [read_inf, read_fin t a ha]
  cases s <;> rfl
theorem sub_fin_inf (s t : Bool) (a : Nat) (ha : a < 9218868437227405312) : double.sub (W t a) (W s 9218868437227405312) = some (W (!s) 9218868437227405312) := by
  unfold Format.sub
  rw [read_inf, read_fin t a ha]
  cases s <;> rfl

theorem err41_swap (a b s t o : Nat) (w : World) (h : (FloatKind.f64.format.order (absN a) (absN b) == some .lt) = true) (h1 : double.sub s b = some t) (h2 : double.sub a t = some o) :
    Calls Try.prog 34 #[.float .f64 a, .float .f64 b, .float .f64 s] w fun e w' => e = .returned (.float .f64 o) ∧ w' = w := by
  have g1 := sub_run w _ _ _ h1
  have g2 := sub_run w _ _ _ h2
  clear h1 h2
  go_enter Try.func34, Try.ntmps34
  go_wp2_with (go_at_call 53; refine (abs16 _ _).mono ?_; rintro e w' ⟨rfl, rfl⟩)
  go_ret
  exact ⟨rfl, rfl⟩

/-- what the error says: the greater size first -/
theorem err_says (s t : Bool) (a b r c : Nat) (ha : a < 9218868437227405312) (hab : b ≤ a) (hT : val s a + val t b ≠ 0)
    (h1 : M r ≤ (val s a + val t b).natAbs) (h2 : (val s a + val t b).natAbs < M (r + 1)) (h3 : c = r ∨ (c = r + 1 ∧ (val s a + val t b).natAbs ≠ M r)) :
    ∃ y o, double.sub (W (decide (val s a + val t b < 0)) (min c 9218868437227405312)) (W s a) = some y ∧ double.sub (W t b) y = some o ∧
      (if decide (val s a + val t b < 0) then negB o else posB o) = decide (min c 9218868437227405312 < 9218868437227405312 ∧ M (min c 9218868437227405312) * 1 < (val s a + val t b).natAbs) ∧
      (if decide (val s a + val t b < 0) then posB o else negB o) = decide (min c 9218868437227405312 = 9218868437227405312 ∨ (val s a + val t b).natAbs < M (min c 9218868437227405312) * 1) := by
  have hAB := M_le hab
  have hA := M_lt ha
  have hvs : decide (val s a + val t b < 0) = s := by
    unfold val at *
    cases s <;> cases t <;> simp only [Bool.false_eq_true, if_false, if_true] at *
    · exact decide_eq_false (by omega)
    · exact decide_eq_false (by omega)
    · exact decide_eq_true (by omega)
    · exact decide_eq_true (by omega)
  rw [hvs]
  by_cases hc : 9218868437227405312 ≤ c
  · have e : min c 9218868437227405312 = 9218868437227405312 := by omega
    rw [e]
    refine ⟨_, _, sub_inf_fin s s a ha, sub_fin_inf s t b (by omega), ?_, ?_⟩
    · rw [negB_W _ _ (by omega), posB_W _ _ (by omega), decide_eq_false (p := 9218868437227405312 < 9218868437227405312 ∧ _) (by omega)]
      cases s <;> rfl
    · rw [negB_W _ _ (by omega), posB_W _ _ (by omega), decide_eq_true (p := 9218868437227405312 = 9218868437227405312 ∨ _) (Or.inl rfl)]
      cases s <;> rfl
  · have e : min c 9218868437227405312 = c := by omega
    rw [e]
    have hX : (val s a + val t b).natAbs = M a + M b ∨ (val s a + val t b).natAbs + M b = M a := by
      unfold val
      cases s <;> cases t <;> simp only [Bool.false_eq_true, if_false, if_true] <;> omega
    obtain ⟨d, hd⟩ := first_exact a b r c _ hab hX h1 h2 h3
    have hC := M_lt (show c < 9218868437227405312 by omega)
    have hdI : d < 9218868437227405312 := by
      refine M_lt_iff.1 ?_
      rw [hd]
      omega
    have hdv : (val s c + val (!s) a).natAbs = M d := by
      rw [hd, val_not]
      unfold val
      cases s <;> simp only [Bool.false_eq_true, if_false, if_true] <;> omega
    have g1 := add_exact s (!s) c a d (by omega) ha (by omega) hdv
    rw [← sub_W s s c a ha] at g1
    generalize hsy : (if val s c + val (!s) a = 0 then s && !s else decide (val s c + val (!s) a < 0)) = sy at g1
    have hvy : val sy d = val s c - val s a := by
      rw [← hsy, val_signed _ _ _ hdv, val_not]
      rfl
    obtain ⟨so, co, hco, g2, g3, g4⟩ := add_sign t (!sy) b d (by omega) hdI
    rw [← sub_W t sy b d hdI] at g2
    refine ⟨_, _, g1, g2, ?_, ?_⟩
    · rw [g3, g4, val_not, hvy]
      rw [Bool.eq_iff_iff]
      unfold val at *
      cases s <;> cases t <;> simp only [Bool.false_eq_true, if_false, if_true, decide_eq_true_eq, decide_eq_false_iff_not] at * <;> omega
    · rw [g3, g4, val_not, hvy]
      rw [Bool.eq_iff_iff]
      unfold val at *
      cases s <;> cases t <;> simp only [Bool.false_eq_true, if_false, if_true, decide_eq_true_eq, decide_eq_false_iff_not] at * <;> omega
end Go.Proofs.Yteompnpfoplppaa
