import Derived.Test.YteompnpfoplppaaG3
namespace Go.Proofs.Yteompnpfoplppaa
open Go.RowKit
open Ieee
set_option linter.unusedVariables false

theorem sum22_empty (ad : Option Addr) (cap : Nat) (up : Bool) (w : World) :
    Calls Try.prog 19 #[.slice ad 0 cap, .bool up] w fun e w' => ∃ v, e = .returned (.float .f64 v) ∧ SumAt up (fun _ => (false, 0)) 0 v ∧ Grown w w' := by
  go_enter Try.func19, Try.ntmps19
  go_wp2
  go_loopw [5, 10] (fun t i wr => i = .int .i64 0 ∧ t = .float .f64 0 ∧ wr = w) (fun _ _ _ => 0)
  case atStart => exact ⟨rfl, rfl, rfl⟩
  case round =>
    obtain ⟨rfl, rfl, rfl⟩ := hrel
    go_wp2
    go_ret
    exact ⟨_, rfl, rfl, Grown.refl _⟩

/-- words that are not above one another -/
theorem leV_word {v v' : Nat} (h : LeV v v') : (∃ s a, v = W s a ∧ 9218868437227405312 < a ∧ a < 9223372036854775808) ∨ (∃ s a, v' = W s a ∧ 9218868437227405312 < a ∧ a < 9223372036854775808) ∨ ∃ s a t b, v = W s a ∧ v' = W t b ∧ a ≤ 9218868437227405312 ∧ b ≤ 9218868437227405312 ∧ val s a ≤ val t b := by
  rcases h with ⟨s, r, h1, h2, h3⟩ | ⟨s, r, h1, h2, h3⟩ | h
  · exact Or.inl ⟨s, r, h1, h2, h3⟩
  · exact Or.inr (Or.inl ⟨s, r, h1, h2, h3⟩)
  · exact Or.inr (Or.inr h)
theorem W_same {s t : Bool} {a b : Nat} (ha : a < 9223372036854775808) (hb : b < 9223372036854775808) (h : W s a = W t b) : s = t ∧ a = b := by
  have h1 := W_sign s a ha
  have h2 := W_sign t b hb
  have h3 := W_rung s a ha
  have h4 := W_rung t b hb
  rw [h] at h1 h3
  exact ⟨by rw [← h1, h2], by rw [← h3, h4]⟩
theorem add_nan_l {s t : Bool} {a b : Nat} {up : Bool} {o : Option Nat} {v : Nat} (ha : a < 9223372036854775808) (hn : 9218868437227405312 < a) (h : AddSpec s a t b up o) (hv : OkR o v) : NanW v := by
  unfold AddSpec at h
  rw [if_neg (by omega)] at h
  have : double.add (W s a) (W t b) = none := by
    unfold Format.add
    rw [read_nanW s a ha hn]
    rfl
  rw [h, this] at hv
  exact hv
theorem add_nan_r {s t : Bool} {a b : Nat} {up : Bool} {o : Option Nat} {v : Nat} (hb : b < 9223372036854775808) (hn : 9218868437227405312 < b) (h : AddSpec s a t b up o) (hv : OkR o v) : NanW v := by
  unfold AddSpec at h
  rw [if_neg (by omega)] at h
  have : double.add (W s a) (W t b) = none := by
    unfold Format.add
    rw [read_nanW t b hb hn]
    cases double.read (W s a) <;> rfl
  rw [h, this] at hv
  exact hv

/-- a row's sum down is not above its sum up -/
theorem sum_le (f : Nat → Bool × Nat) : ∀ k, (∀ j, j < k → (f j).2 < 9223372036854775808) → ∀ lo hi, SumAt false f k lo → SumAt true f k hi → LeV lo hi := by
  intro k
  induction k with
  | zero =>
    intro _ lo hi h1 h2
    have h1 : lo = 0 := h1
    have h2 : hi = 0 := h2
    exact Or.inr (Or.inr ⟨false, 0, false, 0, h1, h2, by omega, by omega, Int.le_refl _⟩)
  | succ k ih =>
    intro hf lo hi h1 h2
    obtain ⟨s, a, p1, p2, o, p3, p4⟩ := h1
    obtain ⟨t, b, q1, q2, o', q3, q4⟩ := h2
    have hfk := hf k (by omega)
    have hle := leV_word (ih (fun j hj => hf j (by omega)) _ _ p1 q1)
    by_cases hx : 9218868437227405312 < (f k).2
    · exact Or.inl (add_nan_r hfk hx p3 p4)
    by_cases ha : 9218868437227405312 < a
    · exact Or.inl (add_nan_l p2 ha p3 p4)
    by_cases hb : 9218868437227405312 < b
    · exact Or.inr (Or.inl (add_nan_l q2 hb q3 q4))
    rcases hle with ⟨s', a', e1, e2, e6⟩ | ⟨s', a', e1, e2, e6⟩ | ⟨s', a', t', b', e1, e2, e3, e4, e5⟩
    · have := (W_same p2 e6 e1).2
      omega
    · have := (W_same q2 e6 e1).2
      omega
    · obtain ⟨rfl, rfl⟩ := W_same p2 (by omega) e1
      obtain ⟨rfl, rfl⟩ := W_same q2 (by omega) e2
      exact add_grows _ _ _ _ _ _ false true (fun h => by cases h) (by omega) (by omega) (by omega) e5 o o' p3 q3 _ _ p4 q4
end Go.Proofs.Yteompnpfoplppaa
