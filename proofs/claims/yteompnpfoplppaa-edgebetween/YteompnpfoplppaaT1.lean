import Derived.Test.YteompnpfoplppaaD12
import Derived.Test.YteompnpfoplppaaS1
namespace Go.Proofs.Yteompnpfoplppaa
open Go.RowKit
open Ieee
set_option linter.unusedVariables false

/-! signs turned, where an operand is not finite -/
theorem three (a : Nat) (ha : a < 9223372036854775808) : a < 9218868437227405312 ∨ a = 9218868437227405312 ∨ (9218868437227405312 < a ∧ a < 9223372036854775808) := by omega

theorem add_neg_nf (s t : Bool) (a b : Nat) (ha : a < 9223372036854775808) (hb : b < 9223372036854775808) (h : ¬(a < 9218868437227405312 ∧ b < 9218868437227405312)) :
    double.add (W (!s) a) (W (!t) b) = (double.add (W s a) (W t b)).map negN := by
  unfold Format.add
  rcases three a ha with h1 | rfl | ⟨h1, h1'⟩
  · rcases three b hb with h2 | rfl | ⟨h2, h2'⟩
    · exact absurd ⟨h1, h2⟩ h
    · rw [read_fin _ _ h1, read_fin _ _ h1, read_inf, read_inf]
      cases t <;> rfl
    · rw [read_fin _ _ h1, read_fin _ _ h1, read_nanW _ _ h2' h2, read_nanW _ _ h2' h2]
      rfl
  · rcases three b hb with h2 | rfl | ⟨h2, h2'⟩
    · rw [read_fin _ _ h2, read_fin _ _ h2, read_inf, read_inf]
      cases s <;> rfl
    · rw [read_inf, read_inf, read_inf, read_inf]
      cases s <;> cases t <;> rfl
    · rw [read_inf, read_inf, read_nanW _ _ h2' h2, read_nanW _ _ h2' h2]
      rfl
  · rw [read_nanW _ _ h1' h1, read_nanW _ _ h1' h1]
    rfl
theorem sum_comm (x y : Datum) (hx : ∀ s m e, x ≠ .number s m e) : x.sum y = y.sum x := by
  cases x with
  | number s m e => exact absurd rfl (hx s m e)
  | infinity s =>
    cases y with
    | number t n j => rfl
    | infinity t =>
      cases s <;> cases t <;> rfl
    | nan t f => rfl
  | nan s f => cases y <;> rfl
theorem read_not_number (s : Bool) (a : Nat) (ha : a < 9223372036854775808) (h : ¬ a < 9218868437227405312) : ∀ u m e, double.read (W s a) ≠ .number u m e := by
  intro u m e
  rcases three a ha with h1 | rfl | ⟨h1, h1'⟩
  · exact absurd h1 h
  · rw [read_inf]; simp
  · rw [read_nanW _ _ h1' h1]; simp
theorem add_comm_nf (s t : Bool) (a b : Nat) (ha : a < 9223372036854775808) (hb : b < 9223372036854775808) (h : ¬(a < 9218868437227405312 ∧ b < 9218868437227405312)) :
    double.add (W t b) (W s a) = double.add (W s a) (W t b) := by
  unfold Format.add
  by_cases h1 : a < 9218868437227405312
  · rw [sum_comm _ _ (read_not_number t b hb (by omega))]
  · rw [← sum_comm _ _ (read_not_number s a ha h1)]
theorem prod_comm (x y : Datum) : x.product y = y.product x := by
  cases x <;> cases y <;> simp only [Datum.product] <;> first | rfl | (rw [Bool.xor_comm]) | skip
  rw [Bool.xor_comm, Nat.mul_comm, Int.add_comm]
theorem mul_comm_W (x y : Nat) : double.mul x y = double.mul y x := by
  unfold Format.mul
  rw [prod_comm]
theorem mul_neg_nf (s t : Bool) (a b : Nat) (ha : a < 9223372036854775808) (hb : b < 9223372036854775808) (h : ¬(a < 9218868437227405312 ∧ b < 9218868437227405312)) :
    double.mul (W (!s) a) (W t b) = (double.mul (W s a) (W t b)).map negN := by
  unfold Format.mul
  rcases three a ha with h1 | rfl | ⟨h1, h1'⟩
  · rcases three b hb with h2 | rfl | ⟨h2, h2'⟩
    · exact absurd ⟨h1, h2⟩ h
    · rw [read_fin _ _ h1, read_fin _ _ h1, read_inf]
      simp only [Datum.product]
      by_cases hm : mant a = 0
      · rw [if_pos hm, if_pos hm]; rfl
      · rw [if_neg hm, if_neg hm]; cases s <;> cases t <;> rfl
    · rw [read_fin _ _ h1, read_fin _ _ h1, read_nanW _ _ h2' h2]
      rfl
  · rcases three b hb with h2 | rfl | ⟨h2, h2'⟩
    · rw [read_fin _ _ h2, read_inf, read_inf]
      simp only [Datum.product]
      by_cases hm : mant b = 0
      · rw [if_pos hm, if_pos hm]; rfl
      · rw [if_neg hm, if_neg hm]; cases s <;> cases t <;> rfl
    · rw [read_inf, read_inf, read_inf]
      cases s <;> cases t <;> rfl
    · rw [read_inf, read_inf, read_nanW _ _ h2' h2]
      rfl
  · rw [read_nanW _ _ h1' h1, read_nanW _ _ h1' h1]
    rfl
theorem div_neg_nf (s t : Bool) (a b : Nat) (ha : a < 9223372036854775808) (hb : b < 9223372036854775808) (h : ¬(a < 9218868437227405312 ∧ b < 9218868437227405312 ∧ 0 < b)) :
    double.div (W (!s) a) (W t b) = (double.div (W s a) (W t b)).map negN := by
  unfold Format.div
  rcases three a ha with h1 | rfl | ⟨h1, h1'⟩
  · rcases three b hb with h2 | rfl | ⟨h2, h2'⟩
    · have hb0 : b = 0 := by omega
      subst hb0
      rw [read_fin _ _ h1, read_fin _ _ h1, read_fin _ _ h2]
      simp only [Datum.quotient]
      rw [if_pos (show mant 0 = 0 from rfl), if_pos (show mant 0 = 0 from rfl)]
      by_cases hm : mant a = 0
      · rw [if_pos hm, if_pos hm]; rfl
      · rw [if_neg hm, if_neg hm]; cases s <;> cases t <;> rfl
    · rw [read_fin _ _ h1, read_fin _ _ h1, read_inf]
      cases s <;> cases t <;> rfl
    · rw [read_fin _ _ h1, read_fin _ _ h1, read_nanW _ _ h2' h2]
      rfl
  · rcases three b hb with h2 | rfl | ⟨h2, h2'⟩
    · rw [read_fin _ _ h2, read_inf, read_inf]
      cases s <;> cases t <;> rfl
    · rw [read_inf, read_inf, read_inf]
      rfl
    · rw [read_inf, read_inf, read_nanW _ _ h2' h2]
      rfl
  · rw [read_nanW _ _ h1' h1, read_nanW _ _ h1' h1]
    rfl

/-! what turns with the signs, and what does not hang on the order -/
theorem dir_lt {out : Bool} {N D r : Nat} (h : Dir out N D r) : r < 9223372036854775808 := by
  unfold Dir at h
  cases out
  · have := h.1; omega
  · have := h.1; omega
theorem bne_not (u v : Bool) : ((!u) != (!v)) = (u != v) := by cases u <;> cases v <;> rfl
theorem addSpec_neg (s t : Bool) (a b : Nat) (up : Bool) (o o' : Option Nat) (ha : a < 9223372036854775808) (hb : b < 9223372036854775808) (h : AddSpec s a t b up o) (h' : AddSpec (!s) a (!t) b (!up) o') : o' = o.map negN := by
  unfold AddSpec at *
  by_cases hf : a < 9218868437227405312 ∧ b < 9218868437227405312
  · rw [if_pos hf] at h h'
    rw [val_not, val_not, ← Int.neg_add] at h'
    by_cases hT : val s a + val t b = 0
    · rw [if_pos hT] at h
      rw [if_pos (by omega)] at h'
      rw [h, h', Option.map_some]
      congr 1
      by_cases hst : s = t
      · rw [if_pos hst, if_pos (by rw [hst]), neg_W _ _ (by omega)]
      · rw [if_neg hst, if_neg (by simpa using hst), neg_W _ _ (by omega)]
    · rw [if_neg hT] at h
      rw [if_neg (by omega)] at h'
      obtain ⟨r, h1, h2⟩ := h
      obtain ⟨r', h1', h2'⟩ := h'
      have e : decide (-(val s a + val t b) < 0) = !decide (val s a + val t b < 0) := by
        rw [← decide_not]; exact decide_eq_decide.2 (by omega)
      rw [e, bne_not, Int.natAbs_neg] at h2'
      have := dir_unique (by omega) h2 h2'
      subst this
      rw [h1, h1', e, Option.map_some, neg_W _ _ (dir_lt h2)]
  · rw [if_neg hf] at h h'
    rw [h, h']
    exact add_neg_nf s t a b ha hb hf
theorem addSpec_comm (s t : Bool) (a b : Nat) (up : Bool) (o o' : Option Nat) (ha : a < 9223372036854775808) (hb : b < 9223372036854775808) (h : AddSpec s a t b up o) (h' : AddSpec t b s a up o') : o' = o := by
  unfold AddSpec at *
  by_cases hf : a < 9218868437227405312 ∧ b < 9218868437227405312
  · rw [if_pos hf] at h
    rw [if_pos hf.symm, Int.add_comm] at h'
    by_cases hT : val s a + val t b = 0
    · rw [if_pos hT] at h h'
      rw [h, h']
      by_cases hst : s = t
      · subst hst
        rw [if_pos rfl, if_pos rfl]
        have h0 : a = 0 ∧ b = 0 := by
          constructor
          · refine Nat.eq_zero_of_not_pos fun hp => ?_
            have := M_pos hp
            unfold val at hT
            cases s <;> simp only [Bool.false_eq_true, if_false, if_true] at hT <;> omega
          · refine Nat.eq_zero_of_not_pos fun hp => ?_
            have := M_pos hp
            unfold val at hT
            cases s <;> simp only [Bool.false_eq_true, if_false, if_true] at hT <;> omega
        rw [h0.1, h0.2]
      · rw [if_neg hst, if_neg (fun h => hst h.symm)]
    · rw [if_neg hT] at h h'
      obtain ⟨r, h1, h2⟩ := h
      obtain ⟨r', h1', h2'⟩ := h'
      have := dir_unique (by omega) h2 h2'
      subst this
      rw [h1, h1']
  · rw [if_neg hf] at h
    rw [if_neg (fun h => hf h.symm)] at h'
    rw [h, h']
    exact add_comm_nf s t a b ha hb hf
theorem xor_not (s t : Bool) : ((!s) ^^ t) = !(s ^^ t) := by cases s <;> cases t <;> rfl
theorem mulSpec_neg (s t : Bool) (a b : Nat) (up : Bool) (o o' : Option Nat) (ha : a < 9223372036854775808) (hb : b < 9223372036854775808) (h : MulSpec s a t b up o) (h' : MulSpec (!s) a t b (!up) o') : o' = o.map negN := by
  unfold MulSpec at *
  by_cases hf : a < 9218868437227405312 ∧ b < 9218868437227405312
  · rw [if_pos hf] at h h'
    obtain ⟨r, h1, h2⟩ := h
    obtain ⟨r', h1', h2'⟩ := h'
    rw [xor_not, bne_not] at h2'
    have := dir_unique U_pos h2 h2'
    subst this
    rw [h1, h1', xor_not, Option.map_some, neg_W _ _ (dir_lt h2)]
  · rw [if_neg hf] at h h'
    rw [h, h']
    exact mul_neg_nf s t a b ha hb hf
theorem mulSpec_comm (s t : Bool) (a b : Nat) (up : Bool) (o o' : Option Nat) (h : MulSpec s a t b up o) (h' : MulSpec t b s a up o') : o' = o := by
  unfold MulSpec at *
  by_cases hf : a < 9218868437227405312 ∧ b < 9218868437227405312
  · rw [if_pos hf] at h
    rw [if_pos hf.symm] at h'
    obtain ⟨r, h1, h2⟩ := h
    obtain ⟨r', h1', h2'⟩ := h'
    rw [Bool.xor_comm, Nat.mul_comm] at h2'
    have := dir_unique U_pos h2 h2'
    subst this
    rw [h1, h1', Bool.xor_comm]
  · rw [if_neg hf] at h
    rw [if_neg (fun h => hf h.symm)] at h'
    rw [h, h']
    exact mul_comm_W _ _
theorem divSpec_neg (s t : Bool) (a b : Nat) (up : Bool) (o o' : Option Nat) (ha : a < 9223372036854775808) (hb : b < 9223372036854775808) (h : DivSpec s a t b up o) (h' : DivSpec (!s) a t b (!up) o') : o' = o.map negN := by
  unfold DivSpec at *
  by_cases hf : a < 9218868437227405312 ∧ b < 9218868437227405312 ∧ 0 < b
  · rw [if_pos hf] at h h'
    obtain ⟨r, h1, h2⟩ := h
    obtain ⟨r', h1', h2'⟩ := h'
    rw [xor_not, bne_not] at h2'
    have := dir_unique (M_pos hf.2.2) h2 h2'
    subst this
    rw [h1, h1', xor_not, Option.map_some, neg_W _ _ (dir_lt h2)]
  · rw [if_neg hf] at h h'
    rw [h, h']
    exact div_neg_nf s t a b ha hb hf

theorem nanW_neg {v : Nat} (h : NanW v) : NanW (negN v) := by
  obtain ⟨s, r, rfl, h1, h2⟩ := h
  exact ⟨!s, r, neg_W s r h2, h1, h2⟩
theorem same_neg {o o' : Option Nat} (h : o' = o.map negN) : ∀ v v', OkR o v → OkR o' v' → sameB (negN v) v' = true := by
  intro v v' h1 h2
  subst h
  cases o with
  | some x =>
    have h1 : v = x := h1
    have h2 : v' = negN x := h2
    rw [h1, h2]
    exact sameB_refl _
  | none =>
    have h1 : NanW v := h1
    have h2 : NanW v' := h2
    unfold sameB
    rw [nanW_nan (nanW_neg h1), nanW_nan h2, Bool.and_true, Bool.or_true]
theorem same_same {o o' : Option Nat} (h : o' = o) : ∀ v v', OkR o v → OkR o' v' → sameB v v' = true := by
  intro v v' h1 h2
  subst h
  cases o' with
  | some x =>
    have h1 : v = x := h1
    have h2 : v' = x := h2
    rw [h1, h2]
    exact sameB_refl _
  | none =>
    have h1 : NanW v := h1
    have h2 : NanW v' := h2
    unfold sameB
    rw [nanW_nan h1, nanW_nan h2, Bool.and_true, Bool.or_true]
theorem likeB_refl (x : Nat) : likeB x x = true := by
  unfold likeB nanB
  cases h : (FloatKind.f64.format.order x x == some .eq)
  · have : (FloatKind.f64.format.order x x != some .eq) = true := by
      unfold bne; rw [h]; rfl
    rw [this]; rfl
  · rfl
end Go.Proofs.Yteompnpfoplppaa
