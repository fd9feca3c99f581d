import Derived.Test.YtlooaoijacfcfaaDoorRK
import Derived.Test.YtlooaoijacfcfaaDoorXS
namespace Go.Proofs.YtlooaoijacfcfaaDoor
open Go.RowKit
set_option linter.unusedVariables false

theorem Settled.gr {w w' : World} {r : Ending} {s : Bool} {x : Nat} {e : Int} (h : Settled w r s x e) (g : Gr w w') : Settled w' r s x e := by
  unfold Settled at h ⊢
  rcases h with h | ⟨t, q, ad, n, cap, h1, h2, h3, h4, h5⟩ | h
  · exact Or.inl h
  · exact Or.inr (Or.inl ⟨t, q, ad, n, cap, h1, h2, h3, h4.gr g, h5⟩)
  · exact Or.inr (Or.inr h)
/-- the right dyad of that worth, or ErrLong -/
def SetV (w : World) (r : Ending) (V : Int) : Prop := ∃ s x e, 0 ≤ e + KK ∧ sv KK s x e = V ∧ Settled w r s x e
/-- an answer: that sign, size, power and error -/
def Ans (w : World) (s : Bool) (ad : Option Addr) (n cap : Nat) (e : Int) (g : Int) (S : Bool) (X : Nat) (E G : Int) : Prop := s = S ∧ e = E ∧ g = G ∧ Lim w ad n cap 18446744073709551616 X
theorem Ans.gr {w w' : World} {s : Bool} {ad : Option Addr} {n cap : Nat} {e g : Int} {S : Bool} {X : Nat} {E G : Int} (h : Ans w s ad n cap e g S X E G) (gr : Gr w w') : Ans w' s ad n cap e g S X E G := ⟨h.1, h.2.1, h.2.2.1, h.2.2.2.gr gr⟩
theorem nil_lim (w : World) : Lim w none 0 0 18446744073709551616 0 := ⟨[], Row.empty (by omega) (fun _ => rfl), Dg.nil⟩
theorem sv_odd_one {s t : Bool} {p q : Nat} {e f : Int} (he : 0 ≤ e + KK) (hf : 0 ≤ f + KK) (h : sv KK s (2 * p + 1) e = sv KK t (2 * q + 1) f) : s = t ∧ p = q ∧ e = f := by
  have a1 := sv_abs KK s (2 * p + 1) e
  have a2 := sv_abs KK t (2 * q + 1) f
  rw [h, a2] at a1
  have hs : s = t := by
    have s1 := sv_sign KK s (2 * p + 1) e (by omega)
    have s2 := sv_sign KK t (2 * q + 1) f (by omega)
    rw [h] at s1
    cases s <;> cases t
    · rfl
    · have := s1.2 rfl; have := s2.1 rfl; omega
    · have := s1.1 rfl; have := s2.2 rfl; omega
    · rfl
  have := odd_unique (t := (f + KK).toNat) (q := q) (t' := (e + KK).toNat) (q' := p) (by rw [Nat.mul_comm, a1, Nat.mul_comm])
  exact ⟨hs, this.2.symm, by omega⟩
/-- one worth, one answer -/
theorem setv_ans (V : Int) : ∃ S X E G, ∀ w r, SetV w r V → ∃ s ad n cap e g, r = .returned (.tuple #[.agg #[.bool s, .slice ad n cap, .int .i64 e], .int .i64 g]) ∧ Ans w s ad n cap e g S X E G := by
  by_cases hV : V = 0
  · refine ⟨false, 0, 0, 0, ?_⟩
    rintro w r ⟨s, x, e, he, hw, hS⟩
    rw [hV] at hw
    have hx := sv_eq_zero.1 hw
    subst hx
    unfold Settled at hS
    rcases hS with ⟨_, rfl⟩ | ⟨t, q, _, _, _, h, _⟩ | ⟨t, q, h, _⟩
    · exact ⟨false, none, 0, 0, 0, 0, rfl, rfl, rfl, rfl, nil_lim w⟩
    · exact absurd h.symm (Nat.ne_of_gt (Nat.mul_pos (Nat.two_pow_pos t) (by omega)))
    · exact absurd h.symm (Nat.ne_of_gt (Nat.mul_pos (Nat.two_pow_pos t) (by omega)))
  · by_cases hex : ∃ s t q e, 0 ≤ e + KK ∧ sv KK s (2 ^ t * (2 * q + 1)) e = V
    · obtain ⟨s0, t0, q0, e0, he0, hw0⟩ := hex
      have can : ∀ (s : Bool) (t q : Nat) (e : Int), 0 ≤ e + KK → sv KK s (2 ^ t * (2 * q + 1)) e = V → s = s0 ∧ q = q0 ∧ e + (t : Int) = e0 + (t0 : Int) := by
        intro s t q e he hw
        have d1 := sv_down KK s (2 * q + 1) (e + t) e (by omega) he
        have d2 := sv_down KK s0 (2 * q0 + 1) (e0 + t0) e0 (by omega) he0
        rw [show (e + (t : Int) - e).toNat = t by omega, Nat.mul_comm] at d1
        rw [show (e0 + (t0 : Int) - e0).toNat = t0 by omega, Nat.mul_comm] at d2
        have := sv_odd_one (e := e + t) (f := e0 + t0) (by omega) (by omega) (d1.symm.trans (hw.trans (hw0.symm.trans d2)))
        exact ⟨this.1, this.2.1, this.2.2⟩
      by_cases hF : Fits (2 * q0 + 1) (e0 + (t0 : Int))
      · refine ⟨s0, 2 * q0 + 1, e0 + t0, 0, ?_⟩
        rintro w r ⟨s, x, e, he, hw, hS⟩
        unfold Settled at hS
        rcases hS with ⟨rfl, _⟩ | ⟨t, q, ad, n, cap, rfl, h2, rfl, h4, _⟩ | ⟨t, q, rfl, h2, _⟩
        · rw [sv_zero] at hw; exact absurd hw.symm hV
        · obtain ⟨rfl, rfl, h3⟩ := can s t q e he hw
          exact ⟨s, ad, n, cap, _, 0, rfl, rfl, h3, rfl, h4⟩
        · obtain ⟨rfl, rfl, h3⟩ := can s t q e he hw
          rw [h3] at h2
          exact absurd hF h2
      · refine ⟨false, 0, 0, 3, ?_⟩
        rintro w r ⟨s, x, e, he, hw, hS⟩
        unfold Settled at hS
        rcases hS with ⟨rfl, _⟩ | ⟨t, q, ad, n, cap, rfl, h2, _⟩ | ⟨t, q, rfl, h2, rfl⟩
        · rw [sv_zero] at hw; exact absurd hw.symm hV
        · obtain ⟨rfl, rfl, h3⟩ := can s t q e he hw
          rw [h3] at h2
          exact absurd h2 hF
        · exact ⟨false, none, 0, 0, 0, 3, rfl, rfl, rfl, rfl, nil_lim w⟩
    · refine ⟨false, 0, 0, 0, ?_⟩
      rintro w r ⟨s, x, e, he, hw, hS⟩
      unfold Settled at hS
      rcases hS with ⟨rfl, _⟩ | ⟨t, q, _, _, _, rfl, _⟩ | ⟨t, q, rfl, _⟩
      · rw [sv_zero] at hw; exact absurd hw.symm hV
      · exact absurd ⟨s, t, q, e, he, hw⟩ hex
      · exact absurd ⟨s, t, q, e, he, hw⟩ hex
/-- the sum, as sign, size and power -/
theorem sum_form (s t : Bool) (x y : Nat) (e f : Int) (hK1 : 0 ≤ e + KK) (hK2 : 0 ≤ f + KK) : ∃ neg m g, 0 ≤ g + KK ∧ sv KK neg m g = sv KK s x e + sv KK t y f := by
  by_cases h : e ≤ f
  · by_cases hst : s = t
    · subst hst; exact ⟨s, _, e, hK1, plus_same h hK1⟩
    · by_cases hc : x ≤ y * 2 ^ (f - e).toNat
      · exact ⟨t, _, e, hK1, plus_second h hK1 hst hc⟩
      · exact ⟨s, _, e, hK1, plus_first h hK1 hst (by omega)⟩
  · by_cases hst : s = t
    · subst hst; exact ⟨s, _, f, hK2, by have := plus_same (K := KK) (s := s) (m := y) (n := x) (e := f) (f := e) (by omega) hK2; rw [this]; omega⟩
    · by_cases hc : y ≤ x * 2 ^ (e - f).toNat
      · exact ⟨s, _, f, hK2, by have := plus_second (K := KK) (s := t) (t := s) (m := y) (n := x) (e := f) (f := e) (by omega) hK2 (Ne.symm hst) hc; rw [this]; omega⟩
      · exact ⟨t, _, f, hK2, by have := plus_first (K := KK) (s := t) (t := s) (m := y) (n := x) (e := f) (f := e) (by omega) hK2 (Ne.symm hst) (by omega); rw [this]; omega⟩
theorem far_aux {s t neg : Bool} {p q u v : Nat} {e f g : Int} (hK1 : 0 ≤ e + KK) (hK3 : 0 ≤ g + KK) (hef : 262144 < f - e) (hp : 2 * p + 1 < 18446744073709551616 ^ L4096) (hw : sv KK neg (2 ^ u * (2 * v + 1)) g = sv KK s (2 * p + 1) e + sv KK t (2 * q + 1) f) : ¬ Fits (2 * v + 1) (g + (u : Int)) := by
  intro hF
  obtain ⟨d, hd⟩ : ∃ d : Nat, f = e + d := ⟨(f - e).toNat, by omega⟩
  subst hd
  have hP : (e + (d : Int) + KK).toNat = d + (e + KK).toNat := by omega
  have ha := sv_abs KK neg (2 ^ u * (2 * v + 1)) g
  rw [hw] at ha
  obtain ⟨d, rfl⟩ : ∃ d', d = d' + 1 := ⟨d - 1, by omega⟩
  -- the odd size beside 2^(e + KK)
  obtain ⟨z, hz1, hz2⟩ : ∃ z, (sv KK s (2 * p + 1) e + sv KK t (2 * q + 1) (e + ((d + 1 : Nat) : Int))).natAbs = (2 * z + 1) * 2 ^ (e + KK).toNat ∧ 2 ^ (d + 1) ≤ 2 * z + 1 + (2 * p + 1) := by
    have hq : (2 * q + 1) * 2 ^ (d + 1) = 2 * ((2 * q + 1) * 2 ^ d) := by rw [Nat.pow_succ]; ac_rfl
    have hge : 1 * 2 ^ (d + 1) ≤ (2 * q + 1) * 2 ^ (d + 1) := Nat.mul_le_mul_right _ (by omega)
    unfold sv
    rw [hP, Nat.pow_add, ← Nat.mul_assoc]
    generalize (2 * q + 1) * 2 ^ (d + 1) = Y at *
    generalize (2 * q + 1) * 2 ^ d = Y2 at *
    generalize 2 ^ (e + KK).toNat = P at *
    generalize 2 ^ (d + 1) = D at *
    have big : 2 * p + 1 < Y ∨ Y < 2 * p + 1 := by omega
    rcases big with big | big
    · by_cases hst : s = t
      · refine ⟨p + Y2, ?_, by omega⟩
        subst hst
        have e1 : (2 * (p + Y2) + 1) * P = (2 * p + 1) * P + Y * P := by rw [← Nat.add_mul]; congr 1; omega
        rw [e1]
        cases s <;> simp only [Bool.false_eq_true, if_false, if_true] <;> omega
      · refine ⟨Y2 - p - 1, ?_, by omega⟩
        have e1 : (2 * (Y2 - p - 1) + 1) * P + (2 * p + 1) * P = Y * P := by rw [← Nat.add_mul]; congr 1; omega
        cases s <;> cases t <;> simp only [Bool.false_eq_true, if_false, if_true] <;> first | exact absurd rfl hst | omega
    · by_cases hst : s = t
      · refine ⟨p + Y2, ?_, by omega⟩
        subst hst
        have e1 : (2 * (p + Y2) + 1) * P = (2 * p + 1) * P + Y * P := by rw [← Nat.add_mul]; congr 1; omega
        rw [e1]
        cases s <;> simp only [Bool.false_eq_true, if_false, if_true] <;> omega
      · refine ⟨p - Y2, ?_, by omega⟩
        have e1 : (2 * (p - Y2) + 1) * P + Y * P = (2 * p + 1) * P := by rw [← Nat.add_mul]; congr 1; omega
        cases s <;> cases t <;> simp only [Bool.false_eq_true, if_false, if_true] <;> first | exact absurd rfl hst | omega
  rw [hz1] at ha
  have hu := odd_unique (t := (e + KK).toNat) (q := z) (t' := u + (g + KK).toNat) (q' := v) (by rw [Nat.mul_comm, ha, Nat.pow_add]; ac_rfl)
  obtain ⟨_, rfl⟩ := hu
  have h1 := hF.1
  rw [pow64] at h1 hp
  have h2 : 2 ^ (64 * L4096) * 2 ≤ 2 ^ (d + 1) := by
    rw [← Nat.pow_succ]
    exact Nat.pow_le_pow_right (by omega) (by rw [L4096_eq]; omega)
  omega
/-- too far apart: too long -/
theorem far_setv (w : World) (s t : Bool) (x y : Nat) (e f : Int) (hx : x = 0 ∨ ∃ q, x = 2 * q + 1) (hy : y = 0 ∨ ∃ q, y = 2 * q + 1) (x0 : 0 < x) (y0 : 0 < y) (bx : x < 18446744073709551616 ^ L4096) (by' : y < 18446744073709551616 ^ L4096) (hK1 : 0 ≤ e + KK) (hK2 : 0 ≤ f + KK) (hef : 262144 < max e f - min e f) :
    SetV w (.returned (.tuple #[zeroD, .int .i64 3])) (sv KK s x e + sv KK t y f) := by
  obtain ⟨p, rfl⟩ : ∃ q, x = 2 * q + 1 := by rcases hx with h | h; omega; exact h
  obtain ⟨q, rfl⟩ : ∃ q, y = 2 * q + 1 := by rcases hy with h | h; omega; exact h
  obtain ⟨neg, m, g, hg, hw⟩ := sum_form s t (2 * p + 1) (2 * q + 1) e f hK1 hK2
  refine ⟨neg, m, g, hg, hw, ?_⟩
  by_cases hm : m = 0
  · exfalso
    subst hm
    rw [sv_zero] at hw
    have hst : sv KK s (2 * p + 1) e = sv KK (!t) (2 * q + 1) f := by rw [sv_neg]; omega
    have := sv_odd_one hK1 hK2 hst
    omega
  · obtain ⟨u, v, rfl⟩ := odd_form m (by omega)
    unfold Settled
    refine Or.inr (Or.inr ⟨u, v, rfl, ?_, rfl⟩)
    by_cases h : e ≤ f
    · exact far_aux hK1 hg (by omega) bx hw
    · exact far_aux (s := t) (t := s) (p := q) (q := p) (e := f) (f := e) hK2 hg (by omega) by' (by rw [hw]; omega)
end Go.Proofs.YtlooaoijacfcfaaDoor
