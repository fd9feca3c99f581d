import Derived.Test.YteompnpfoplppaaT1
namespace Go.Proofs.Yteompnpfoplppaa
open Go.RowKit
open Ieee
set_option linter.unusedVariables false

theorem near_dir {N D c : Nat} (h : Near N D c) : Dir true N D c ∨ Dir false N D c := by
  obtain ⟨h1, h2, h3⟩ := h
  by_cases hc : c < 9218868437227405312 ∧ M c * D ≤ N
  · exact Or.inr ⟨hc.1, hc.2, fun h => h2 hc.1⟩
  · exact Or.inl ⟨h1, fun h => by omega, h3⟩
theorem dir_near {N D c r r' : Nat} {q : Bool} (hD : 0 < D) (h : Near N D c) (h1 : Dir q N D r) (h2 : Dir (!q) N D r') : r = c ∨ r' = c := by
  rcases near_dir h with h3 | h3 <;> cases q
  · exact Or.inr (dir_unique hD h2 h3)
  · exact Or.inl (dir_unique hD h1 h3)
  · exact Or.inl (dir_unique hD h1 h3)
  · exact Or.inr (dir_unique hD h2 h3)
theorem like_nan {x y : Nat} (hx : NanW x) (hy : NanW y) : likeB x y = true := by
  unfold likeB
  rw [nanW_nan hx, nanW_nan hy, Bool.and_true, Bool.or_true]
theorem like_pick (o oU oN : Option Nat) (h : (∃ x y, o = some x ∧ oU = some y ∧ likeB x y = true) ∨ oU = o ∨ (∃ x y, o = some x ∧ oU = some y ∧ oN = some x)) :
    ∃ b : Bool, (∀ x v, OkR o x → OkR oU v → likeB x v = b) ∧ (b = false → ∀ x v, OkR o x → OkR oN v → likeB x v = true) := by
  rcases h with ⟨x, y, rfl, rfl, h⟩ | rfl | ⟨x, y, rfl, rfl, rfl⟩
  · refine ⟨true, ?_, fun h => by cases h⟩
    intro x' v h1 h2
    have h1 : x' = x := h1
    have h2 : v = y := h2
    rw [h1, h2, h]
  · refine ⟨true, ?_, fun h => by cases h⟩
    intro x v h1 h2
    cases oU with
    | some z =>
      have h1 : x = z := h1
      have h2 : v = z := h2
      rw [h1, h2]
      exact likeB_refl _
    | none => exact like_nan h1 h2
  · refine ⟨likeB x y, ?_, fun _ => ?_⟩
    · intro x' v h1 h2
      have h1 : x' = x := h1
      have h2 : v = y := h2
      rw [h1, h2]
    · intro x' v h1 h2
      have h1 : x' = x := h1
      have h2 : v = x := h2
      rw [h1, h2]
      exact likeB_refl _
theorem bne_other (u v : Bool) : ((!u) != v) = !(u != v) := by cases u <;> cases v <;> rfl
theorem own_add (s t : Bool) (a b : Nat) (up : Bool) (oU oN : Option Nat) (h : AddSpec s a t b up oU) (h' : AddSpec s a t b (!up) oN) :
    ∃ b' : Bool, (∀ x v, OkR (double.add (W s a) (W t b)) x → OkR oU v → likeB x v = b') ∧ (b' = false → ∀ x v, OkR (double.add (W s a) (W t b)) x → OkR oN v → likeB x v = true) := by
  refine like_pick _ _ _ ?_
  unfold AddSpec at *
  by_cases hf : a < 9218868437227405312 ∧ b < 9218868437227405312
  · rw [if_pos hf] at h h'
    by_cases hT : val s a + val t b = 0
    · rw [if_pos hT] at h
      have h4 := add_exact s t a b 0 hf.1 hf.2 (by omega) (by rw [hT]; rfl)
      refine Or.inl ⟨_, _, h4, h, ?_⟩
      unfold likeB
      by_cases hst : s = t
      · rw [if_pos hst]
        have h0 : a = 0 := by
          refine Nat.eq_zero_of_not_pos fun hp => ?_
          have := M_pos hp
          subst hst
          unfold val at hT
          cases s <;> simp only [Bool.false_eq_true, if_false, if_true] at hT <;> omega
        rw [h0, B_eq _ _ _ _ (by omega) (by omega), val_zero, val_zero]
        rfl
      · rw [if_neg hst, B_eq _ _ _ _ (by omega) (by omega), val_zero, val_zero]
        rfl
    · rw [if_neg hT] at h h'
      obtain ⟨r, h1, h2⟩ := h
      obtain ⟨r', h1', h2'⟩ := h'
      obtain ⟨r0, c, k1, k2, k3, k4⟩ := add_faithful s t a b hf.1 hf.2
      rw [if_neg hT] at k4
      have hnear : Near (val s a + val t b).natAbs 1 (min c 9218868437227405312) := near_of_faithful (r := r0) (by omega) (by rw [Nat.mul_one]; exact k1) (by rw [Nat.mul_one]; exact k2) (by rw [Nat.mul_one]; exact k3)
      rw [bne_other] at h2'
      rcases dir_near (by omega) hnear h2 h2' with e | e
      · exact Or.inr (Or.inl (by rw [h1, k4, e]))
      · exact Or.inr (Or.inr ⟨_, _, k4, h1, by rw [h1', e]⟩)
  · rw [if_neg hf] at h
    exact Or.inr (Or.inl h)
theorem own_mul (s t : Bool) (a b : Nat) (up : Bool) (oU oN : Option Nat) (h : MulSpec s a t b up oU) (h' : MulSpec s a t b (!up) oN) :
    ∃ b' : Bool, (∀ x v, OkR (double.mul (W s a) (W t b)) x → OkR oU v → likeB x v = b') ∧ (b' = false → ∀ x v, OkR (double.mul (W s a) (W t b)) x → OkR oN v → likeB x v = true) := by
  refine like_pick _ _ _ ?_
  unfold MulSpec at *
  by_cases hf : a < 9218868437227405312 ∧ b < 9218868437227405312
  · rw [if_pos hf] at h h'
    obtain ⟨r, h1, h2⟩ := h
    obtain ⟨r', h1', h2'⟩ := h'
    obtain ⟨r0, c, k1, k2, k3, k4⟩ := mul_faithful s t a b hf.1 hf.2
    have hnear : Near (M a * M b) U (min c 9218868437227405312) := near_of_faithful (r := r0) U_pos k1 k2 k3
    rw [bne_other] at h2'
    rcases dir_near U_pos hnear h2 h2' with e | e
    · exact Or.inr (Or.inl (by rw [h1, k4, e]))
    · exact Or.inr (Or.inr ⟨_, _, k4, h1, by rw [h1', e]⟩)
  · rw [if_neg hf] at h
    exact Or.inr (Or.inl h)

/-- the bits that a NaN is drawn with -/
def nanOf (x y : Nat) (w : World) : Nat := Question.cut (.nanBits .f64 x y) (w.tape w.drawn (.nanBits .f64 x y))
theorem nanOf_W (x y : Nat) (w : World) : NanW (nanOf x y w) := by
  have key : ∀ s k : Nat, k < 4503599627370495 → s < 2 → NanW (s * 2 ^ 63 + 0x7ff0000000000000 + 1 + k) := by
    intro s k hk hs
    refine ⟨s == 1, 0x7ff0000000000000 + 1 + k, ?_, by omega, by omega⟩
    have : s = 0 ∨ s = 1 := by omega
    rcases this with rfl | rfl
    · show 0 * 2 ^ 63 + 0x7ff0000000000000 + 1 + k = 0x7ff0000000000000 + 1 + k
      omega
    · show 1 * 2 ^ 63 + 0x7ff0000000000000 + 1 + k = 9223372036854775808 + (0x7ff0000000000000 + 1 + k)
      omega
  exact key _ _ (by omega) (by omega)
theorem nanOf_run (op : BinOp) (hop : op = .add ∨ op = .sub ∨ op = .mul ∨ op = .quo) (t : TypeId) (x y : Nat) (w : World) (h : floatBits op .f64 x y = none) :
    (binOp op t (.float .f64 x) (.float .f64 y)).run Try.prog w = .ok (.float .f64 (nanOf x y w)) w.drew := by
  unfold nanOf
  rcases hop with rfl | rfl | rfl | rfl <;> (unfold floatBits at h; simp only at h; simp [binOp, Op.floatArith, h])
  all_goals exact fun hf => Bool.noConfusion (show false = true from hf)

theorem same_true (x y : Nat) (w : World) (h : sameB x y = true) : Calls Try.prog 7 #[.float .f64 x, .float .f64 y] w fun e w' => e = .returned (.bool true) ∧ w' = w := by
  have := same10 x y w
  rw [h] at this
  exact this
theorem sub13 (a b nb : Nat) (up : Bool) (w : World) (P : Nat → Prop) (hb : negN b = nb)
    (hA : ∀ w, Calls Try.prog 8 #[.float .f64 a, .float .f64 nb, .bool up] w fun e w' => ∃ v, e = .returned (.float .f64 v) ∧ P v ∧ Grown w w') :
    Calls Try.prog 10 #[.float .f64 a, .float .f64 b, .bool up] w fun e w' => ∃ v, e = .returned (.float .f64 v) ∧ P v ∧ Grown w w' := by
  have HA : Hid (∀ w, Calls Try.prog 8 #[.float .f64 a, .float .f64 nb, .bool up] w fun e w' => ∃ v, e = .returned (.float .f64 v) ∧ P v ∧ Grown w w') := hA
  clear hA
  have g1 : ∀ w, (Op.unary .neg (.float .f64 b)).run Try.prog w = .ok (.float .f64 nb) w := by
    intro w; rw [← hb]; exact neg_run _ w
  clear hb
  go_enter Try.func10, Try.ntmps10
  go_wp2_with (go_at_call 8; with_reducible refine (HA.out _).mono ?_; rintro e w' ⟨v, rfl, hv, hg⟩)
  go_ret
  exact ⟨_, rfl, hv, hg⟩

theorem hidden {p : Prop} (h : p) : Hid p := h
end Go.Proofs.Yteompnpfoplppaa
