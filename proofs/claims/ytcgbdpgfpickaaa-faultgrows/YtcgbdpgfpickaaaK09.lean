import Derived.Test.YtcgbdpgfpickaaaK08
namespace Go.Proofs.Ytcgbdpgfpickaaa.Fl
open Go.RowKit
open Ieee
set_option linter.unusedVariables false

theorem mant_zero {a : Nat} : mant a = 0 ↔ a = 0 := by
  constructor
  · intro h
    refine Nat.eq_zero_of_not_pos fun hp => ?_
    have := M_pos hp
    unfold M at this
    rw [h, Nat.zero_mul] at this
    omega
  · intro h; subst h; rfl
theorem mul_inf_c (s u : Bool) (a : Nat) (ha : a ≤ 9218868437227405312) : double.mul (W s a) (W u 9218868437227405312) = if a = 0 then none else some (W (s ^^ u) 9218868437227405312) := by
  unfold Format.mul
  by_cases h : a < 9218868437227405312
  · rw [read_fin s a h, read_inf]
    simp only [Datum.product]
    by_cases h0 : a = 0
    · rw [if_pos h0, if_pos (mant_zero.2 h0)]; rfl
    · rw [if_neg h0, if_neg (fun h => h0 (mant_zero.1 h))]
      cases s <;> cases u <;> rfl
  · have : a = 9218868437227405312 := by omega
    subst this
    rw [read_inf, read_inf, if_neg (by omega)]
    cases s <;> cases u <;> rfl
theorem dir_zero {out : Bool} {D r : Nat} (hD : 0 < D) (h : Dir out 0 D r) : r = 0 := by
  refine Nat.eq_zero_of_not_pos fun hp => ?_
  cases out
  · have h : DirDn 0 D r := h
    have h1 := h.2.1
    have h2 : 0 < M r * D := Nat.mul_pos (M_pos hp) hD
    omega
  · have h : DirUp 0 D r := h
    have := h.2.2 hp
    omega

theorem val_le_cases {s t : Bool} {a b : Nat} (h : val s a ≤ val t b) : (s = true ∧ t = false) ∨ (s = false ∧ t = false ∧ a ≤ b) ∨ (s = true ∧ t = true ∧ b ≤ a) ∨ (a = 0 ∧ b = 0) := by
  unfold val at h
  cases s <;> cases t <;> simp only [Bool.false_eq_true, if_false, if_true] at h
  · refine Or.inr (Or.inl ⟨rfl, rfl, Nat.le_of_not_lt fun hlt => ?_⟩)
    have := M_lt hlt
    omega
  · right; right; right
    constructor
    · refine Nat.eq_zero_of_not_pos fun hp => ?_
      have := M_pos hp
      omega
    · refine Nat.eq_zero_of_not_pos fun hp => ?_
      have := M_pos hp
      omega
  · exact Or.inl ⟨rfl, rfl⟩
  · refine Or.inr (Or.inr (Or.inl ⟨rfl, rfl, Nat.le_of_not_lt fun hlt => ?_⟩))
    have := M_lt hlt
    omega

/-- PRODUCTS with what is not below 0 GROW -/
theorem mul_grows (s t u : Bool) (a b c : Nat) (up : Bool) (ha : a ≤ 9218868437227405312) (hb : b ≤ 9218868437227405312) (hc : c ≤ 9218868437227405312) (hu : u = false ∨ c = 0)
    (hle : val s a ≤ val t b) (o o' : Option Nat) (h : MulSpec s a u c up o) (h' : MulSpec t b u c up o') : ∀ v v', OkR o v → OkR o' v' → LeV v v' := by
  intro v v' hv hv'
  have hU := U_pos
  unfold MulSpec at h h'
  by_cases hc0 : c = 0
  · subst hc0
    -- 0: noughts, or none
    have key : ∀ (s : Bool) (a : Nat) (o : Option Nat) (v : Nat), a ≤ 9218868437227405312 → (if a < 9218868437227405312 ∧ 0 < 9218868437227405312 then ∃ r, o = some (W (s ^^ u) r) ∧ Dir (up != (s ^^ u)) (M a * M 0) U r else o = double.mul (W s a) (W u 0)) → OkR o v → NanW v ∨ ∃ sg, v = W sg 0 := by
      intro s a o v ha h hv
      by_cases haI : a < 9218868437227405312
      · rw [if_pos ⟨haI, by omega⟩] at h
        obtain ⟨r, h1, h2⟩ := h
        rw [M_zero, Nat.mul_zero] at h2
        rw [h1, dir_zero hU h2] at hv
        exact Or.inr ⟨_, hv⟩
      · have : a = 9218868437227405312 := by omega
        subst this
        rw [if_neg (by omega), mul_comm_W, mul_inf_c u s 0 (by omega), if_pos rfl] at h
        rw [h] at hv
        exact Or.inl hv
    rcases key s a o v ha h hv with k | ⟨sg, k⟩
    · exact Or.inl k
    · rcases key t b o' v' hb h' hv' with k' | ⟨sg', k'⟩
      · exact Or.inr (Or.inl k')
      · exact Or.inr (Or.inr ⟨sg, 0, sg', 0, k, k', by omega, by omega, by rw [val_zero, val_zero]; omega⟩)
  have hu : u = false := by rcases hu with h | h; exact h; exact absurd h hc0
  subst hu
  rw [Bool.xor_false] at h h'
  by_cases hcI : c = 9218868437227405312
  · subst hcI
    rw [if_neg (by omega), mul_inf_c s false a ha] at h
    rw [if_neg (by omega), mul_inf_c t false b hb] at h'
    by_cases ha0 : a = 0
    · rw [if_pos ha0] at h
      rw [h] at hv
      exact Or.inl hv
    · by_cases hb0 : b = 0
      · rw [if_pos hb0] at h'
        rw [h'] at hv'
        exact Or.inr (Or.inl hv')
      · rw [if_neg ha0, Bool.xor_false] at h
        rw [if_neg hb0, Bool.xor_false] at h'
        rw [h] at hv
        rw [h'] at hv'
        refine Or.inr (Or.inr ⟨s, _, t, _, hv, hv', by omega, by omega, ?_⟩)
        rcases val_le_cases hle with ⟨rfl, rfl⟩ | ⟨rfl, rfl, _⟩ | ⟨rfl, rfl, _⟩ | ⟨h1, _⟩
        · exact bot_le_val _ _ (by omega)
        · exact Int.le_refl _
        · exact Int.le_refl _
        · exact absurd h1 ha0
  have hcf : c < 9218868437227405312 := by omega
  -- each comes to a number of its own sign
  have key : ∀ (s : Bool) (a : Nat) (o : Option Nat) (v : Nat), a ≤ 9218868437227405312 → (if a < 9218868437227405312 ∧ c < 9218868437227405312 then ∃ r, o = some (W s r) ∧ Dir (up != s) (M a * M c) U r else o = double.mul (W s a) (W false c)) → OkR o v →
      ∃ r, v = W s r ∧ r ≤ 9218868437227405312 ∧ ((a < 9218868437227405312 ∧ Dir (up != s) (M a * M c) U r) ∨ (a = 9218868437227405312 ∧ r = 9218868437227405312)) := by
    intro s a o v ha h hv
    by_cases haI : a < 9218868437227405312
    · rw [if_pos ⟨haI, hcf⟩] at h
      obtain ⟨r, h1, h2⟩ := h
      rw [h1] at hv
      exact ⟨r, hv, dir_le h2, Or.inl ⟨haI, h2⟩⟩
    · have : a = 9218868437227405312 := by omega
      subst this
      rw [if_neg (by omega), mul_comm_W, mul_inf_c false s c hc, if_neg hc0, Bool.false_xor] at h
      rw [h] at hv
      exact ⟨_, hv, by omega, Or.inr ⟨rfl, rfl⟩⟩
  obtain ⟨r, k1, k2, k3⟩ := key s a o v ha h hv
  obtain ⟨r', k1', k2', k3'⟩ := key t b o' v' hb h' hv'
  refine Or.inr (Or.inr ⟨s, r, t, r', k1, k1', k2, k2', ?_⟩)
  -- the size grows
  have grow : ∀ (q : Bool) (x y rx ry : Nat), x ≤ y → y ≤ 9218868437227405312 → rx ≤ 9218868437227405312 → ((x < 9218868437227405312 ∧ Dir q (M x * M c) U rx) ∨ (x = 9218868437227405312 ∧ rx = 9218868437227405312)) → ((y < 9218868437227405312 ∧ Dir q (M y * M c) U ry) ∨ (y = 9218868437227405312 ∧ ry = 9218868437227405312)) → rx ≤ ry := by
    intro q x y rx ry hxy hy hrx hx hy'
    rcases hy' with ⟨g1, g2⟩ | ⟨g1, g2⟩
    · rcases hx with ⟨f1, f2⟩ | ⟨f1, f2⟩
      · exact dir_mono hU hU f2 g2 (Nat.mul_le_mul_right _ (Nat.mul_le_mul_right _ (M_le hxy)))
      · omega
    · omega
  rcases val_le_cases hle with ⟨rfl, rfl⟩ | ⟨rfl, rfl, hab⟩ | ⟨rfl, rfl, hab⟩ | ⟨rfl, rfl⟩
  · have h1 := val_neg_le r
    have h2 := val_pos_le r'
    omega
  · have := M_le (grow _ a b r r' hab hb k2 k3 k3')
    unfold val
    simp only [Bool.false_eq_true, if_false]
    omega
  · have := M_le (grow _ b a r' r hab ha k2' k3' k3)
    unfold val
    simp only [if_true]
    omega
  · have h1 : r = 0 := by
      rcases k3 with ⟨_, f2⟩ | ⟨f1, _⟩
      · rw [M_zero, Nat.zero_mul] at f2; exact dir_zero hU f2
      · omega
    have h2 : r' = 0 := by
      rcases k3' with ⟨_, f2⟩ | ⟨f1, _⟩
      · rw [M_zero, Nat.zero_mul] at f2; exact dir_zero hU f2
      · omega
    rw [h1, h2, val_zero, val_zero]
    omega

theorem sqrt_zero (s : Bool) : double.sqrt (W s 0) = some (W s 0) := by
  cases s <;> decide +kernel
theorem sqrt_neg (a : Nat) (h0 : 0 < a) (ha : a ≤ 9218868437227405312) : double.sqrt (W true a) = none := by
  unfold Format.sqrt
  by_cases h : a < 9218868437227405312
  · rw [read_fin true a h]
    simp only [Datum.root]
    rw [if_neg (fun h => by have := mant_zero.1 h; omega)]
    rfl
  · have : a = 9218868437227405312 := by omega
    subst this
    rw [read_inf]
    rfl
theorem sqrt_pinf : double.sqrt (W false 9218868437227405312) = some (W false 9218868437227405312) := by
  unfold Format.sqrt
  rw [read_inf]
  rfl
/-- ROOTS GROW -/
theorem sqrt_grows (s t : Bool) (a b : Nat) (up : Bool) (ha : a ≤ 9218868437227405312) (hb : b ≤ 9218868437227405312)
    (hle : val s a ≤ val t b) (o o' : Option Nat) (h : SqrtSpec s a up o) (h' : SqrtSpec t b up o') : ∀ v v', OkR o v → OkR o' v' → LeV v v' := by
  intro v v' hv hv'
  unfold SqrtSpec at h h'
  -- what one comes to
  have key : ∀ (s : Bool) (a : Nat) (o : Option Nat) (v : Nat), a ≤ 9218868437227405312 → (if a < 9218868437227405312 ∧ 0 < a ∧ s = false then ∃ r, o = some (W false r) ∧ Dir up (rootN (M a * U)) 2 r else o = double.sqrt (W s a)) → OkR o v →
      (s = true ∧ 0 < a ∧ NanW v) ∨ (a = 0 ∧ v = W s 0) ∨ (s = false ∧ 0 < a ∧ ∃ r, v = W false r ∧ r ≤ 9218868437227405312 ∧ ((a < 9218868437227405312 ∧ Dir up (rootN (M a * U)) 2 r) ∨ (a = 9218868437227405312 ∧ r = 9218868437227405312))) := by
    intro s a o v ha h hv
    by_cases h0 : a = 0
    · subst h0
      rw [if_neg (by omega), sqrt_zero] at h
      rw [h] at hv
      exact Or.inr (Or.inl ⟨rfl, hv⟩)
    · cases s
      · right; right
        refine ⟨rfl, by omega, ?_⟩
        by_cases haI : a < 9218868437227405312
        · rw [if_pos ⟨haI, by omega, rfl⟩] at h
          obtain ⟨r, h1, h2⟩ := h
          rw [h1] at hv
          exact ⟨r, hv, dir_le h2, Or.inl ⟨haI, h2⟩⟩
        · have : a = 9218868437227405312 := by omega
          subst this
          rw [if_neg (by omega), sqrt_pinf] at h
          rw [h] at hv
          exact ⟨_, hv, by omega, Or.inr ⟨rfl, rfl⟩⟩
      · left
        rw [if_neg (by simp), sqrt_neg a (by omega) ha] at h
        rw [h] at hv
        exact ⟨rfl, by omega, hv⟩
  rcases key s a o v ha h hv with ⟨_, _, k⟩ | ⟨k1, k2⟩ | ⟨k1, k2, r, k3, k4, k5⟩
  · exact Or.inl k
  · rcases key t b o' v' hb h' hv' with ⟨_, _, g⟩ | ⟨g1, g2⟩ | ⟨g1, g2, r', g3, g4, g5⟩
    · exact Or.inr (Or.inl g)
    · exact Or.inr (Or.inr ⟨s, 0, t, 0, k2, g2, by omega, by omega, by rw [val_zero, val_zero]; omega⟩)
    · exact Or.inr (Or.inr ⟨s, 0, false, r', k2, g3, by omega, g4, by rw [val_zero]; exact val_pos_le _⟩)
  · rcases key t b o' v' hb h' hv' with ⟨_, _, g⟩ | ⟨g1, g2⟩ | ⟨g1, g2, r', g3, g4, g5⟩
    · exact Or.inr (Or.inl g)
    · exfalso
      subst k1 g1
      have := M_pos k2
      rw [val_zero] at hle
      unfold val at hle
      simp only [Bool.false_eq_true, if_false] at hle
      omega
    · refine Or.inr (Or.inr ⟨false, r, false, r', k3, g3, k4, g4, ?_⟩)
      subst k1 g1
      have hab : a ≤ b := by
        refine Nat.le_of_not_lt fun hlt => ?_
        have := M_lt hlt
        unfold val at hle
        simp only [Bool.false_eq_true, if_false] at hle
        omega
      have hrr : r ≤ r' := by
        rcases g5 with ⟨f1, f2⟩ | ⟨f1, f2⟩
        · rcases k5 with ⟨e1, e2⟩ | ⟨e1, e2⟩
          · exact dir_mono (by omega) (by omega) e2 f2 (Nat.mul_le_mul_right _ (rootN_mono (Nat.mul_le_mul_right _ (M_le hab))))
          · omega
        · omega
      have := M_le hrr
      unfold val
      simp only [Bool.false_eq_true, if_false]
      omega
end Go.Proofs.Ytcgbdpgfpickaaa.Fl
