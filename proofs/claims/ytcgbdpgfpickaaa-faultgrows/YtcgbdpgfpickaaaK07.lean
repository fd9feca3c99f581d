import Derived.Test.YtcgbdpgfpickaaaK06
namespace Go.Proofs.Ytcgbdpgfpickaaa.Fl
open Go.RowKit
open Ieee
set_option linter.unusedVariables false

/-! signs turned, where an operand is not finite -/
theorem three (a : Nat) (ha : a < 9223372036854775808) : a < 9218868437227405312 ∨ a = 9218868437227405312 ∨ (9218868437227405312 < a ∧ a < 9223372036854775808) := by omega

theorem add_neg_nf (s t : Bool) (a b : Nat) (ha : a < 9223372036854775808) (hb : b < 9223372036854775808) (h : ¬(a < 9218868437227405312 ∧ b < 9218868437227405312)) :
    double.add (W (!s) a) (W (!t) b) = (double.add (W s a) (W t b)).map negN := by
  unfold Format.add
  rcases three a ha with h1 | rfl | ⟨h1, h1'⟩
  · rcases three b hb with h2 | rfl | ⟨h2, h2'⟩
    · exact absurd ⟨h1, h2⟩ h
    · rw [read_fin _ _ h1, read_fin _ _ h1, read_inf, read_inf]
      cases t <;> rfl
    · rw [read_fin _ _ h1, read_fin _ _ h1, read_nanW _ _ h2' h2, read_nanW _ _ h2' h2]
      rfl
  · rcases three b hb with h2 | rfl | ⟨h2, h2'⟩
    · rw [read_fin _ _ h2, read_fin _ _ h2, read_inf, read_inf]
      cases s <;> rfl
    · rw [read_inf, read_inf, read_inf, read_inf]
      cases s <;> cases t <;> rfl
    · rw [read_inf, read_inf, read_nanW _ _ h2' h2, read_nanW _ _ h2' h2]
      rfl
  · rw [read_nanW _ _ h1' h1, read_nanW _ _ h1' h1]
    rfl
theorem sum_comm (x y : Datum) (hx : ∀ s m e, x ≠ .number s m e) : x.sum y = y.sum x := by
  cases x with
  | number s m e => exact absurd rfl (hx s m e)
  | infinity s =>
    cases y with
    | number t n j => rfl
    | infinity t =>
      cases s <;> cases t <;> rfl
    | nan t f => rfl
  | nan s f => cases y <;> rfl
theorem read_not_number (s : Bool) (a : Nat) (ha : a < 9223372036854775808) (h : ¬ a < 9218868437227405312) : ∀ u m e, double.read (W s a) ≠ .number u m e := by
  intro u m e
  rcases three a ha with h1 | rfl | ⟨h1, h1'⟩
  · exact absurd h1 h
  · rw [read_inf]; simp
  · rw [read_nanW _ _ h1' h1]; simp
theorem add_comm_nf (s t : Bool) (a b : Nat) (ha : a < 9223372036854775808) (hb : b < 9223372036854775808) (h : ¬(a < 9218868437227405312 ∧ b < 9218868437227405312)) :
    double.add (W t b) (W s a) = double.add (W s a) (W t b) := by
  unfold Format.add
  by_cases h1 : a < 9218868437227405312
  · rw [sum_comm _ _ (read_not_number t b hb (by omega))]
  · rw [← sum_comm _ _ (read_not_number s a ha h1)]
theorem prod_comm (x y : Datum) : x.product y = y.product x := by
  cases x <;> cases y <;> simp only [Datum.product] <;> first | rfl | (rw [Bool.xor_comm]) | skip
  rw [Bool.xor_comm, Nat.mul_comm, Int.add_comm]
theorem mul_comm_W (x y : Nat) : double.mul x y = double.mul y x := by
  unfold Format.mul
  rw [prod_comm]
theorem mul_neg_nf (s t : Bool) (a b : Nat) (ha : a < 9223372036854775808) (hb : b < 9223372036854775808) (h : ¬(a < 9218868437227405312 ∧ b < 9218868437227405312)) :
    double.mul (W (!s) a) (W t b) = (double.mul (W s a) (W t b)).map negN := by
  unfold Format.mul
  rcases three a ha with h1 | rfl | ⟨h1, h1'⟩
  · rcases three b hb with h2 | rfl | ⟨h2, h2'⟩
    · exact absurd ⟨h1, h2⟩ h
    · rw [read_fin _ _ h1, read_fin _ _ h1, read_inf]
      simp only [Datum.product]
      by_cases hm : mant a = 0
      · rw [if_pos hm, if_pos hm]; rfl
      · rw [if_neg hm, if_neg hm]; cases s <;> cases t <;> rfl
    · rw [read_fin _ _ h1, read_fin _ _ h1, read_nanW _ _ h2' h2]
      rfl
  · rcases three b hb with h2 | rfl | ⟨h2, h2'⟩
    · rw [read_fin _ _ h2, read_inf, read_inf]
      simp only [Datum.product]
      by_cases hm : mant b = 0
      · rw [if_pos hm, if_pos hm]; rfl
      · rw [if_neg hm, if_neg hm]; cases s <;> cases t <;> rfl
    · rw [read_inf, read_inf, read_inf]
      cases s <;> cases t <;> rfl
    · rw [read_inf, read_inf, read_nanW _ _ h2' h2]
      rfl
  · rw [read_nanW _ _ h1' h1, read_nanW _ _ h1' h1]
    rfl
theorem div_neg_nf (s t : Bool) (a b : Nat) (ha : a < 9223372036854775808) (hb : b < 9223372036854775808) (h : ¬(a < 9218868437227405312 ∧ b < 9218868437227405312 ∧ 0 < b)) :
    double.div (W (!s) a) (W t b) = (double.div (W s a) (W t b)).map negN := by
  unfold Format.div
  rcases three a ha with h1 | rfl | ⟨h1, h1'⟩
  · rcases three b hb with h2 | rfl | ⟨h2, h2'⟩
    · have hb0 : b = 0 := by omega
      subst hb0
      rw [read_fin _ _ h1, read_fin _ _ h1, read_fin _ _ h2]
      simp only [Datum.quotient]
      rw [if_pos (show mant 0 = 0 from rfl), if_pos (show mant 0 = 0 from rfl)]
      by_cases hm : mant a = 0
      · rw [if_pos hm, if_pos hm]; rfl
      · rw [if_neg hm, if_neg hm]; cases s <;> cases t <;> rfl
    · rw [read_fin _ _ h1, read_fin _ _ h1, read_inf]
      cases s <;> cases t <;> rfl
    · rw [read_fin _ _ h1, read_fin _ _ h1, read_nanW _ _ h2' h2]
      rfl
  · rcases three b hb with h2 | rfl | ⟨h2, h2'⟩
    · rw [read_fin _ _ h2, read_inf, read_inf]
      cases s <;> cases t <;> rfl
    · rw [read_inf, read_inf, read_inf]
      rfl
    · rw [read_inf, read_inf, read_nanW _ _ h2' h2]
      rfl
  · rw [read_nanW _ _ h1' h1, read_nanW _ _ h1' h1]
    rfl

/-! what turns with the signs, and what does not hang on the order -/
theorem dir_lt {out : Bool} {N D r : Nat} (h : Dir out N D r) : r < 9223372036854775808 := by
  unfold Dir at h
  cases out
  · have := h.1; omega
  · have := h.1; omega
theorem bne_not (u v : Bool) : ((!u) != (!v)) = (u != v) := by cases u <;> cases v <;> rfl
theorem addSpec_neg (s t : Bool) (a b : Nat) (up : Bool) (o o' : Option Nat) (ha : a < 9223372036854775808) (hb : b < 9223372036854775808) (h : AddSpec s a t b up o) (h' : AddSpec (!s) a (!t) b (!up) o') : o' = o.map negN := by
  unfold AddSpec at *
  by_cases hf : a < 9218868437227405312 ∧ b < 9218868437227405312
  · rw [if_pos hf] at h h'
    rw [val_not, val_not, ← Int.neg_add] at h'
    by_cases hT : val s a + val t b = 0
    · rw [if_pos hT] at h
      rw [if_pos (by omega)] at h'
      rw [h, h', Option.map_some]
      congr 1
      by_cases hst : s = t
      · rw [if_pos hst, if_pos (by rw [hst]), neg_W _ _ (by omega)]
      · rw [if_neg hst, if_neg (by simpa using hst), neg_W _ _ (by omega)]
    · rw [if_neg hT] at h
      rw [if_neg (by omega)] at h'
      obtain ⟨r, h1, h2⟩ := h
      obtain ⟨r', h1', h2'⟩ := h'
      have e : decide (-(val s a + val t b) < 0) = !decide (val s a + val t b < 0) := by
        rw [← decide_not]; exact decide_eq_decide.2 (by omega)
      rw [e, bne_not, Int.natAbs_neg] at h2'
      have := dir_unique (by omega) h2 h2'
      subst this
      rw [h1, h1', e, Option.map_some, neg_W _ _ (dir_lt h2)]
  · rw [if_neg hf] at h h'
    rw [h, h']
    exact add_neg_nf s t a b ha hb hf
theorem addSpec_comm (s t : Bool) (a b : Nat) (up : Bool) (o o' : Option Nat) (ha : a < 9223372036854775808) (hb : b < 9223372036854775808) (h : AddSpec s a t b up o) (h' : AddSpec t b s a up o') : o' = o := by
  unfold AddSpec at *
  by_cases hf : a < 9218868437227405312 ∧ b < 9218868437227405312
  · rw [if_pos hf] at h
    rw [if_pos hf.symm, Int.add_comm] at h'
    by_cases hT : val s a + val t b = 0
    · rw [if_pos hT] at h h'
      rw [h, h']
      by_cases hst : s = t
      · subst hst
        rw [if_pos rfl, if_pos rfl]
        have h0 : a = 0 ∧ b = 0 := by
          constructor
          · refine Nat.eq_zero_of_not_pos fun hp => ?_
            have := M_pos hp
            unfold val at hT
            cases s <;> simp only [Bool.false_eq_true, if_false, if_true] at hT <;> omega
          · refine Nat.eq_zero_of_not_pos fun hp => ?_
            have := M_pos hp
            unfold val at hT
            cases s <;> simp only [Bool.false_eq_true, if_false, if_true] at hT <;> omega
        rw [h0.1, h0.2]
      · rw [if_neg hst, if_neg (fun h => hst h.symm)]
    · rw [if_neg hT] at h h'
      obtain ⟨r, h1, h2⟩ := h
      obtain ⟨r', h1', h2'⟩ := h'
      have := dir_unique (by omega) h2 h2'
      subst this
      rw [h1, h1']
  · rw [if_neg hf] at h
    rw [if_neg (fun h => hf h.symm)] at h'
    rw [h, h']
    exact add_comm_nf s t a b ha hb hf
theorem xor_not (s t : Bool) : ((!s) ^^ t) = !(s ^^ t) := by cases s <;> cases t <;> rfl
theorem mulSpec_neg (s t : Bool) (a b : Nat) (up : Bool) (o o' : Option Nat) (ha : a < 9223372036854775808) (hb : b < 9223372036854775808) (h : MulSpec s a t b up o) (h' : MulSpec (!s) a t b (!up) o') : o' = o.map negN := by
  unfold MulSpec at *
  by_cases hf : a < 9218868437227405312 ∧ b < 9218868437227405312
  · rw [if_pos hf] at h h'
    obtain ⟨r, h1, h2⟩ := h
    obtain ⟨r', h1', h2'⟩ := h'
    rw [xor_not, bne_not] at h2'
    have := dir_unique U_pos h2 h2'
    subst this
    rw [h1, h1', xor_not, Option.map_some, neg_W _ _ (dir_lt h2)]
  · rw [if_neg hf] at h h'
    rw [h, h']
    exact mul_neg_nf s t a b ha hb hf
theorem mulSpec_comm (s t : Bool) (a b : Nat) (up : Bool) (o o' : Option Nat) (h : MulSpec s a t b up o) (h' : MulSpec t b s a up o') : o' = o := by
  unfold MulSpec at *
  by_cases hf : a < 9218868437227405312 ∧ b < 9218868437227405312
  · rw [if_pos hf] at h
    rw [if_pos hf.symm] at h'
    obtain ⟨r, h1, h2⟩ := h
    obtain ⟨r', h1', h2'⟩ := h'
    rw [Bool.xor_comm, Nat.mul_comm] at h2'
    have := dir_unique U_pos h2 h2'
    subst this
    rw [h1, h1', Bool.xor_comm]
  · rw [if_neg hf] at h
    rw [if_neg (fun h => hf h.symm)] at h'
    rw [h, h']
    exact mul_comm_W _ _
theorem divSpec_neg (s t : Bool) (a b : Nat) (up : Bool) (o o' : Option Nat) (ha : a < 9223372036854775808) (hb : b < 9223372036854775808) (h : DivSpec s a t b up o) (h' : DivSpec (!s) a t b (!up) o') : o' = o.map negN := by
  unfold DivSpec at *
  by_cases hf : a < 9218868437227405312 ∧ b < 9218868437227405312 ∧ 0 < b
  · rw [if_pos hf] at h h'
    obtain ⟨r, h1, h2⟩ := h
    obtain ⟨r', h1', h2'⟩ := h'
    rw [xor_not, bne_not] at h2'
    have := dir_unique (M_pos hf.2.2) h2 h2'
    subst this
    rw [h1, h1', xor_not, Option.map_some, neg_W _ _ (dir_lt h2)]
  · rw [if_neg hf] at h h'
    rw [h, h']
    exact div_neg_nf s t a b ha hb hf

theorem nanW_neg {v : Nat} (h : NanW v) : NanW (negN v) := by
  obtain ⟨s, r, rfl, h1, h2⟩ := h
  exact ⟨!s, r, neg_W s r h2, h1, h2⟩
theorem same_neg {o o' : Option Nat} (h : o' = o.map negN) : ∀ v v', OkR o v → OkR o' v' → sameB (negN v) v' = true := by
  intro v v' h1 h2
  subst h
  cases o with
  | some x =>
    have h1 : v = x := h1
    have h2 : v' = negN x := h2
    rw [h1, h2]
    exact sameB_refl _
  | none =>
    have h1 : NanW v := h1
    have h2 : NanW v' := h2
    unfold sameB
    rw [nanW_nan (nanW_neg h1), nanW_nan h2, Bool.and_true, Bool.or_true]
theorem same_same {o o' : Option Nat} (h : o' = o) : ∀ v v', OkR o v → OkR o' v' → sameB v v' = true := by
  intro v v' h1 h2
  subst h
  cases o' with
  | some x =>
    have h1 : v = x := h1
    have h2 : v' = x := h2
    rw [h1, h2]
    exact sameB_refl _
  | none =>
    have h1 : NanW v := h1
    have h2 : NanW v' := h2
    unfold sameB
    rw [nanW_nan h1, nanW_nan h2, Bool.and_true, Bool.or_true]
theorem likeB_refl (x : Nat) : likeB x x = true := by
  unfold likeB nanB
  cases h : (FloatKind.f64.format.order x x == some .eq)
  · have : (FloatKind.f64.format.order x x != some .eq) = true := by
      unfold bne; rw [h]; rfl
    rw [this]; rfl
  · rfl
end Go.Proofs.Ytcgbdpgfpickaaa.Fl
namespace Go.Proofs.Ytcgbdpgfpickaaa.Fl
open Go.RowKit
open Ieee
set_option linter.unusedVariables false

theorem near_dir {N D c : Nat} (h : Near N D c) : Dir true N D c ∨ Dir false N D c := by
  obtain ⟨h1, h2, h3⟩ := h
  by_cases hc : c < 9218868437227405312 ∧ M c * D ≤ N
  · exact Or.inr ⟨hc.1, hc.2, fun h => h2 hc.1⟩
  · exact Or.inl ⟨h1, fun h => by omega, h3⟩
theorem dir_near {N D c r r' : Nat} {q : Bool} (hD : 0 < D) (h : Near N D c) (h1 : Dir q N D r) (h2 : Dir (!q) N D r') : r = c ∨ r' = c := by
  rcases near_dir h with h3 | h3 <;> cases q
  · exact Or.inr (dir_unique hD h2 h3)
  · exact Or.inl (dir_unique hD h1 h3)
  · exact Or.inl (dir_unique hD h1 h3)
  · exact Or.inr (dir_unique hD h2 h3)
theorem like_nan {x y : Nat} (hx : NanW x) (hy : NanW y) : likeB x y = true := by
  unfold likeB
  rw [nanW_nan hx, nanW_nan hy, Bool.and_true, Bool.or_true]
theorem like_pick (o oU oN : Option Nat) (h : (∃ x y, o = some x ∧ oU = some y ∧ likeB x y = true) ∨ oU = o ∨ (∃ x y, o = some x ∧ oU = some y ∧ oN = some x)) :
    ∃ b : Bool, (∀ x v, OkR o x → OkR oU v → likeB x v = b) ∧ (b = false → ∀ x v, OkR o x → OkR oN v → likeB x v = true) := by
  rcases h with ⟨x, y, rfl, rfl, h⟩ | rfl | ⟨x, y, rfl, rfl, rfl⟩
  · refine ⟨true, ?_, fun h => by cases h⟩
    intro x' v h1 h2
    have h1 : x' = x := h1
    have h2 : v = y := h2
    rw [h1, h2, h]
  · refine ⟨true, ?_, fun h => by cases h⟩
    intro x v h1 h2
    cases oU with
    | some z =>
      have h1 : x = z := h1
      have h2 : v = z := h2
      rw [h1, h2]
      exact likeB_refl _
    | none => exact like_nan h1 h2
  · refine ⟨likeB x y, ?_, fun _ => ?_⟩
    · intro x' v h1 h2
      have h1 : x' = x := h1
      have h2 : v = y := h2
      rw [h1, h2]
    · intro x' v h1 h2
      have h1 : x' = x := h1
      have h2 : v = x := h2
      rw [h1, h2]
      exact likeB_refl _
theorem bne_other (u v : Bool) : ((!u) != v) = !(u != v) := by cases u <;> cases v <;> rfl
theorem own_add (s t : Bool) (a b : Nat) (up : Bool) (oU oN : Option Nat) (h : AddSpec s a t b up oU) (h' : AddSpec s a t b (!up) oN) :
    ∃ b' : Bool, (∀ x v, OkR (double.add (W s a) (W t b)) x → OkR oU v → likeB x v = b') ∧ (b' = false → ∀ x v, OkR (double.add (W s a) (W t b)) x → OkR oN v → likeB x v = true) := by
  refine like_pick _ _ _ ?_
  unfold AddSpec at *
  by_cases hf : a < 9218868437227405312 ∧ b < 9218868437227405312
  · rw [if_pos hf] at h h'
    by_cases hT : val s a + val t b = 0
    · rw [if_pos hT] at h
      have h4 := add_exact s t a b 0 hf.1 hf.2 (by omega) (by rw [hT]; rfl)
      refine Or.inl ⟨_, _, h4, h, ?_⟩
      unfold likeB
      by_cases hst : s = t
      · rw [if_pos hst]
        have h0 : a = 0 := by
          refine Nat.eq_zero_of_not_pos fun hp => ?_
          have := M_pos hp
          subst hst
          unfold val at hT
          cases s <;> simp only [Bool.false_eq_true, if_false, if_true] at hT <;> omega
        rw [h0, B_eq _ _ _ _ (by omega) (by omega), val_zero, val_zero]
        rfl
      · rw [if_neg hst, B_eq _ _ _ _ (by omega) (by omega), val_zero, val_zero]
        rfl
    · rw [if_neg hT] at h h'
      obtain ⟨r, h1, h2⟩ := h
      obtain ⟨r', h1', h2'⟩ := h'
      obtain ⟨r0, c, k1, k2, k3, k4⟩ := add_faithful s t a b hf.1 hf.2
      rw [if_neg hT] at k4
      have hnear : Near (val s a + val t b).natAbs 1 (min c 9218868437227405312) := near_of_faithful (r := r0) (by omega) (by rw [Nat.mul_one]; exact k1) (by rw [Nat.mul_one]; exact k2) (by rw [Nat.mul_one]; exact k3)
      rw [bne_other] at h2'
      rcases dir_near (by omega) hnear h2 h2' with e | e
      · exact Or.inr (Or.inl (by rw [h1, k4, e]))
      · exact Or.inr (Or.inr ⟨_, _, k4, h1, by rw [h1', e]⟩)
  · rw [if_neg hf] at h
    exact Or.inr (Or.inl h)
theorem own_mul (s t : Bool) (a b : Nat) (up : Bool) (oU oN : Option Nat) (h : MulSpec s a t b up oU) (h' : MulSpec s a t b (!up) oN) :
    ∃ b' : Bool, (∀ x v, OkR (double.mul (W s a) (W t b)) x → OkR oU v → likeB x v = b') ∧ (b' = false → ∀ x v, OkR (double.mul (W s a) (W t b)) x → OkR oN v → likeB x v = true) := by
  refine like_pick _ _ _ ?_
  unfold MulSpec at *
  by_cases hf : a < 9218868437227405312 ∧ b < 9218868437227405312
  · rw [if_pos hf] at h h'
    obtain ⟨r, h1, h2⟩ := h
    obtain ⟨r', h1', h2'⟩ := h'
    obtain ⟨r0, c, k1, k2, k3, k4⟩ := mul_faithful s t a b hf.1 hf.2
    have hnear : Near (M a * M b) U (min c 9218868437227405312) := near_of_faithful (r := r0) U_pos k1 k2 k3
    rw [bne_other] at h2'
    rcases dir_near U_pos hnear h2 h2' with e | e
    · exact Or.inr (Or.inl (by rw [h1, k4, e]))
    · exact Or.inr (Or.inr ⟨_, _, k4, h1, by rw [h1', e]⟩)
  · rw [if_neg hf] at h
    exact Or.inr (Or.inl h)

/-- the bits that a NaN is drawn with -/
def nanOf (x y : Nat) (w : World) : Nat := Question.cut (.nanBits .f64 x y) (w.tape w.drawn (.nanBits .f64 x y))
theorem nanOf_W (x y : Nat) (w : World) : NanW (nanOf x y w) := by
  have key : ∀ s k : Nat, k < 4503599627370495 → s < 2 → NanW (s * 2 ^ 63 + 0x7ff0000000000000 + 1 + k) := by
    intro s k hk hs
    refine ⟨s == 1, 0x7ff0000000000000 + 1 + k, ?_, by omega, by omega⟩
    have : s = 0 ∨ s = 1 := by omega
    rcases this with rfl | rfl
    · show 0 * 2 ^ 63 + 0x7ff0000000000000 + 1 + k = 0x7ff0000000000000 + 1 + k
      omega
    · show 1 * 2 ^ 63 + 0x7ff0000000000000 + 1 + k = 9223372036854775808 + (0x7ff0000000000000 + 1 + k)
      omega
  exact key _ _ (by omega) (by omega)
theorem nanOf_run (op : BinOp) (hop : op = .add ∨ op = .sub ∨ op = .mul ∨ op = .quo) (t : TypeId) (x y : Nat) (w : World) (h : floatBits op .f64 x y = none) :
    (binOp op t (.float .f64 x) (.float .f64 y)).run Try.prog w = .ok (.float .f64 (nanOf x y w)) w.drew := by
  unfold nanOf
  rcases hop with rfl | rfl | rfl | rfl <;> (unfold floatBits at h; simp only at h; simp [binOp, Op.floatArith, h])
  all_goals exact fun hf => Bool.noConfusion (show false = true from hf)

theorem same_true (x y : Nat) (w : World) (h : sameB x y = true) : Calls Try.prog 24 #[.float .f64 x, .float .f64 y] w fun e w' => e = .returned (.bool true) ∧ w' = w := by
  have := same10 x y w
  rw [h] at this
  exact this
theorem hidden {p : Prop} (h : p) : Hid p := h
end Go.Proofs.Ytcgbdpgfpickaaa.Fl
namespace Go.Proofs.Ytcgbdpgfpickaaa.Fl
open Go.RowKit
open Ieee
set_option linter.unusedVariables false

theorem m2s (motive : Array Value → Type) (x : Nat) (h1 : (x : Nat) → motive #[.float .f64 x]) (h2 : (x : Array Value) → motive x) : Extern.MathSqrt.sqrt.match_2 motive #[.float .f64 x] h1 h2 = h1 x := rfl
theorem ext75 (x : Nat) (w : World) : (callFunc 63 #[.float .f64 x]).run Try.prog w = ((Extern.MathSqrt.sqrt #[.float .f64 x]).run Try.prog w).andThen fun v w' => .ok (.value v) w' :=
  run_callFunc_extern Try.func63 (by kernel_rfl) (by kernel_rfl) (by kernel_rfl) (by kernel_rfl) _ w
theorem sqrt75 (x r : Nat) (w : World) (h : double.sqrt x = some r) : (callFunc 63 #[.float .f64 x]).run Try.prog w = .ok (.value (.float .f64 r)) w := by
  have h1 : Extern.MathSqrt.sqrt #[.float .f64 x] = pure (.float .f64 r) := by
    unfold Extern.MathSqrt.sqrt
    have h2 : FloatKind.f64.format.sqrt x = some r := h
    rw [m2s (fun _ => Sem Value), h2]
  rw [ext75, h1]
  rfl
theorem sqrt75n (x : Nat) (w : World) (h : double.sqrt x = none) : (callFunc 63 #[.float .f64 x]).run Try.prog w = .ok (.value (.float .f64 (nanOf x x w))) w.drew := by
  have h1 : (Extern.MathSqrt.sqrt #[.float .f64 x]).run Try.prog w = .ok (.float .f64 (nanOf x x w)) w.drew := by
    unfold Extern.MathSqrt.sqrt
    have h2 : FloatKind.f64.format.sqrt x = none := h
    rw [m2s (fun _ => Sem Value), h2]
    simp only [Sem.run_bind, Sem.run_pure]
    rfl
  rw [ext75, h1]
  rfl
theorem sqrt53 (x v : Nat) (w w2 : World) (h : (callFunc 63 #[.float .f64 x]).run Try.prog w = .ok (.value (.float .f64 v)) w2) : Calls Try.prog 46 #[.float .f64 x] w fun e w' => e = .returned (.float .f64 v) ∧ w' = w2 := by
  go_enter Try.func46, Try.ntmps46
  go_wp2
  go_ret
  exact ⟨rfl, rfl⟩
theorem root54 (a r r' nr' a' o z : Nat) (e half : Int) (w : World) (h1 : -3000 ≤ e) (h2 : e ≤ 3000) (hh : e.tdiv 2 = half) (h3 : -1500 ≤ half) (h4 : half ≤ 1500)
    (hA : ∀ w, Calls Try.prog 65 #[.float .f64 a] w fun e' w' => e' = .returned (.tuple #[.float .f64 z, .int .i64 e]) ∧ w' = w)
    (hR : ∀ w, Calls Try.prog 22 #[.float .f64 r, .int .i64 (-half)] w fun e w' => e = .returned (.float .f64 r') ∧ w' = w)
    (hL : ∀ w, Calls Try.prog 22 #[.float .f64 a, .int .i64 (-2 * half)] w fun e w' => e = .returned (.float .f64 a') ∧ w' = w)
    (hq : negN r' = nr') (hf : double.fma nr' r' a' = some o) :
    Calls Try.prog 49 #[.float .f64 a, .float .f64 r] w fun e w' => e = .returned (.float .f64 o) ∧ w' = w := by
  have HA : Hid (∀ w, Calls Try.prog 65 #[.float .f64 a] w fun e' w' => e' = .returned (.tuple #[.float .f64 z, .int .i64 e]) ∧ w' = w) := hA
  have HR : Hid (∀ w, Calls Try.prog 22 #[.float .f64 r, .int .i64 (-half)] w fun e w' => e = .returned (.float .f64 r') ∧ w' = w) := hR
  have HL : Hid (∀ w, Calls Try.prog 22 #[.float .f64 a, .int .i64 (-2 * half)] w fun e w' => e = .returned (.float .f64 a') ∧ w' = w) := hL
  clear hA hR hL
  have g1 : ∀ w, (Op.unary .neg (.float .f64 r')).run Try.prog w = .ok (.float .f64 nr') w := by
    intro w; rw [← hq]; exact neg_run _ w
  have g2 := fun w => fma70 _ _ _ _ w hf
  clear hq hf
  go_enter Try.func49, Try.ntmps49
  go_wp2_with (first | (go_at_call 65; refine (HA.out _).mono ?_; rintro e w' ⟨rfl, rfl⟩) | (go_at_call 22; with_reducible refine (HR.out _).mono ?_; rintro e w' ⟨rfl, rfl⟩) | (go_at_call 22; with_reducible refine (HL.out _).mono ?_; rintro e w' ⟨rfl, rfl⟩))
  go_ret
  exact ⟨rfl, rfl⟩
theorem sqrt19 (a s o : Nat) (r : Nat) (up : Bool) (w : World) (ha : finB a = true) (h0 : negB a = false) (h0' : zeroB a = false) (h1 : double.sqrt a = some s) (hs : s = W false r) (hr : r < 9223372036854775808)
    (he : ∀ w, Calls Try.prog 49 #[.float .f64 a, .float .f64 s] w fun e w' => e = .returned (.float .f64 o) ∧ w' = w) :
    Calls Try.prog 31 #[.float .f64 a, .bool up] w fun e w' => e = .returned (.float .f64 (sideW false r o up)) ∧ w' = w := by
  have HQ : Hid (∀ w, Calls Try.prog 46 #[.float .f64 a] w fun e w' => e = .returned (.float .f64 s) ∧ w' = w) := fun w => sqrt53 a s w w (sqrt75 a s w h1)
  clear h1
  unfold negB at h0
  unfold zeroB at h0'
  have hS := fun w => side20 false r o up w hr
  rw [← hs] at hS
  have HE : Hid (∀ w, Calls Try.prog 49 #[.float .f64 a, .float .f64 s] w fun e w' => e = .returned (.float .f64 o) ∧ w' = w) := he
  have HS : Hid (∀ w, Calls Try.prog 48 #[.float .f64 s, .float .f64 o, .bool up] w fun e w' => e = .returned (.float .f64 (sideW false r o up)) ∧ w' = w) := hS
  clear he hS hs hr
  generalize sideW false r o up = res at *
  go_enter Try.func31, Try.ntmps31
  go_wp2_with (first | (go_at_call 46; refine (HQ.out _).mono ?_; rintro e w' ⟨rfl, rfl⟩) | (go_at_call 47; refine (fin15 _ _).mono ?_; rintro e w' ⟨rfl, rfl⟩) | (go_at_call 49; refine (HE.out _).mono ?_; rintro e w' ⟨rfl, rfl⟩) | (go_at_call 48; refine (HS.out _).mono ?_; rintro e w' ⟨rfl, rfl⟩))
  go_ret
  exact ⟨rfl, rfl⟩
theorem sqrt19_not (a v : Nat) (up : Bool) (w w2 : World) (h : (finB a && !negB a && !zeroB a) = false) (h1 : (callFunc 63 #[.float .f64 a]).run Try.prog w = .ok (.value (.float .f64 v)) w2) :
    Calls Try.prog 31 #[.float .f64 a, .bool up] w fun e w' => e = .returned (.float .f64 v) ∧ w' = w2 := by
  have HQ : Hid (Calls Try.prog 46 #[.float .f64 a] w fun e w' => e = .returned (.float .f64 v) ∧ w' = w2) := sqrt53 a v w w2 h1
  clear h1
  unfold negB zeroB at h
  cases ha : finB a
  · clear h
    go_enter Try.func31, Try.ntmps31
    go_wp2_with (first | (go_at_call 46; refine (HQ.out).mono ?_; rintro e w' ⟨rfl, rfl⟩) | (go_at_call 47; refine (fin15 _ _).mono ?_; rintro e w' ⟨rfl, rfl⟩))
    go_ret
    exact ⟨rfl, rfl⟩
  · cases hn : (FloatKind.f64.format.order a 0 == some .lt)
    · have hz : (FloatKind.f64.format.order a 0 == some .eq) = true := by rw [ha, hn] at h; simpa using h
      clear h
      go_enter Try.func31, Try.ntmps31
      go_wp2_with (first | (go_at_call 46; refine (HQ.out).mono ?_; rintro e w' ⟨rfl, rfl⟩) | (go_at_call 47; refine (fin15 _ _).mono ?_; rintro e w' ⟨rfl, rfl⟩))
      go_ret
      exact ⟨rfl, rfl⟩
    · clear h
      go_enter Try.func31, Try.ntmps31
      go_wp2_with (first | (go_at_call 46; refine (HQ.out).mono ?_; rintro e w' ⟨rfl, rfl⟩) | (go_at_call 47; refine (fin15 _ _).mono ?_; rintro e w' ⟨rfl, rfl⟩))
      go_ret
      exact ⟨rfl, rfl⟩
end Go.Proofs.Ytcgbdpgfpickaaa.Fl
