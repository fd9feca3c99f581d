import Derived.Test.YtcgbdpgfpickaaaK25
import Derived.Test.YtcgbdpgfpickaaaK17
import Derived.Test.YtcgbdpgfpickaaaK14
import Derived.Deep.DeepCutAuto
namespace Go.Proofs.Ytcgbdpgfpickaaa
open Go.RowKit
set_option linter.unusedVariables false

theorem Settled.gr {w w' : World} {r : Ending} {s : Bool} {x : Nat} {e : Int} (h : Settled w r s x e) (g : Gr w w') : Settled w' r s x e := by
  unfold Settled at h ⊢
  rcases h with h | ⟨t, q, ad, n, cap, h1, h2, h3, h4, h5⟩ | h
  · exact Or.inl h
  · exact Or.inr (Or.inl ⟨t, q, ad, n, cap, h1, h2, h3, h4.gr g, h5⟩)
  · exact Or.inr (Or.inr h)
/-- the right dyad of that worth, or ErrLong -/
def SetV (w : World) (r : Ending) (V : Int) : Prop := ∃ s x e, 0 ≤ e + KK ∧ sv KK s x e = V ∧ Settled w r s x e
/-- an answer: that sign, size, power and error -/
def Ans (w : World) (s : Bool) (ad : Option Addr) (n cap : Nat) (e : Int) (g : Int) (S : Bool) (X : Nat) (E G : Int) : Prop := s = S ∧ e = E ∧ g = G ∧ Lim w ad n cap 18446744073709551616 X
theorem Ans.gr {w w' : World} {s : Bool} {ad : Option Addr} {n cap : Nat} {e g : Int} {S : Bool} {X : Nat} {E G : Int} (h : Ans w s ad n cap e g S X E G) (gr : Gr w w') : Ans w' s ad n cap e g S X E G := ⟨h.1, h.2.1, h.2.2.1, h.2.2.2.gr gr⟩
theorem nil_lim (w : World) : Lim w none 0 0 18446744073709551616 0 := ⟨[], Row.empty (by omega) (fun _ => rfl), Dg.nil⟩
theorem sv_odd_one {s t : Bool} {p q : Nat} {e f : Int} (he : 0 ≤ e + KK) (hf : 0 ≤ f + KK) (h : sv KK s (2 * p + 1) e = sv KK t (2 * q + 1) f) : s = t ∧ p = q ∧ e = f := by
  have a1 := sv_abs KK s (2 * p + 1) e
  have a2 := sv_abs KK t (2 * q + 1) f
  rw [h, a2] at a1
  have hs : s = t := by
    have s1 := sv_sign KK s (2 * p + 1) e (by omega)
    have s2 := sv_sign KK t (2 * q + 1) f (by omega)
    rw [h] at s1
    cases s <;> cases t
    · rfl
    · have := s1.2 rfl; have := s2.1 rfl; omega
    · have := s1.1 rfl; have := s2.2 rfl; omega
    · rfl
  have := odd_unique (t := (f + KK).toNat) (q := q) (t' := (e + KK).toNat) (q' := p) (by rw [Nat.mul_comm, a1, Nat.mul_comm])
  exact ⟨hs, this.2.symm, by omega⟩
/-- one worth, one answer -/
theorem setv_ans (V : Int) : ∃ S X E G, ∀ w r, SetV w r V → ∃ s ad n cap e g, r = .returned (.tuple #[.agg #[.bool s, .slice ad n cap, .int .i64 e], .int .i64 g]) ∧ Ans w s ad n cap e g S X E G := by
  by_cases hV : V = 0
  · refine ⟨false, 0, 0, 0, ?_⟩
    rintro w r ⟨s, x, e, he, hw, hS⟩
    rw [hV] at hw
    have hx := sv_eq_zero.1 hw
    subst hx
    unfold Settled at hS
    rcases hS with ⟨_, rfl⟩ | ⟨t, q, _, _, _, h, _⟩ | ⟨t, q, h, _⟩
    · exact ⟨false, none, 0, 0, 0, 0, rfl, rfl, rfl, rfl, nil_lim w⟩
    · exact absurd h.symm (Nat.ne_of_gt (Nat.mul_pos (Nat.two_pow_pos t) (by omega)))
    · exact absurd h.symm (Nat.ne_of_gt (Nat.mul_pos (Nat.two_pow_pos t) (by omega)))
  · by_cases hex : ∃ s t q e, 0 ≤ e + KK ∧ sv KK s (2 ^ t * (2 * q + 1)) e = V
    · obtain ⟨s0, t0, q0, e0, he0, hw0⟩ := hex
      have can : ∀ (s : Bool) (t q : Nat) (e : Int), 0 ≤ e + KK → sv KK s (2 ^ t * (2 * q + 1)) e = V → s = s0 ∧ q = q0 ∧ e + (t : Int) = e0 + (t0 : Int) := by
        intro s t q e he hw
        have d1 := sv_down KK s (2 * q + 1) (e + t) e (by omega) he
        have d2 := sv_down KK s0 (2 * q0 + 1) (e0 + t0) e0 (by omega) he0
        rw [show (e + (t : Int) - e).toNat = t by omega, Nat.mul_comm] at d1
        rw [show (e0 + (t0 : Int) - e0).toNat = t0 by omega, Nat.mul_comm] at d2
        have := sv_odd_one (e := e + t) (f := e0 + t0) (by omega) (by omega) (d1.symm.trans (hw.trans (hw0.symm.trans d2)))
        exact ⟨this.1, this.2.1, this.2.2⟩
      by_cases hF : Fits (2 * q0 + 1) (e0 + (t0 : Int))
      · refine ⟨s0, 2 * q0 + 1, e0 + t0, 0, ?_⟩
        rintro w r ⟨s, x, e, he, hw, hS⟩
        unfold Settled at hS
        rcases hS with ⟨rfl, _⟩ | ⟨t, q, ad, n, cap, rfl, h2, rfl, h4, _⟩ | ⟨t, q, rfl, h2, _⟩
        · rw [sv_zero] at hw; exact absurd hw.symm hV
        · obtain ⟨rfl, rfl, h3⟩ := can s t q e he hw
          exact ⟨s, ad, n, cap, _, 0, rfl, rfl, h3, rfl, h4⟩
        · obtain ⟨rfl, rfl, h3⟩ := can s t q e he hw
          rw [h3] at h2
          exact absurd hF h2
      · refine ⟨false, 0, 0, 3, ?_⟩
        rintro w r ⟨s, x, e, he, hw, hS⟩
        unfold Settled at hS
        rcases hS with ⟨rfl, _⟩ | ⟨t, q, ad, n, cap, rfl, h2, _⟩ | ⟨t, q, rfl, h2, rfl⟩
        · rw [sv_zero] at hw; exact absurd hw.symm hV
        · obtain ⟨rfl, rfl, h3⟩ := can s t q e he hw
          rw [h3] at h2
          exact absurd h2 hF
        · exact ⟨false, none, 0, 0, 0, 3, rfl, rfl, rfl, rfl, nil_lim w⟩
    · refine ⟨false, 0, 0, 0, ?_⟩
      rintro w r ⟨s, x, e, he, hw, hS⟩
      unfold Settled at hS
      rcases hS with ⟨rfl, _⟩ | ⟨t, q, _, _, _, rfl, _⟩ | ⟨t, q, rfl, _⟩
      · rw [sv_zero] at hw; exact absurd hw.symm hV
      · exact absurd ⟨s, t, q, e, he, hw⟩ hex
      · exact absurd ⟨s, t, q, e, he, hw⟩ hex
/-- the sum, as sign, size and power -/
theorem sum_form (s t : Bool) (x y : Nat) (e f : Int) (hK1 : 0 ≤ e + KK) (hK2 : 0 ≤ f + KK) : ∃ neg m g, 0 ≤ g + KK ∧ sv KK neg m g = sv KK s x e + sv KK t y f := by
  by_cases h : e ≤ f
  · by_cases hst : s = t
    · subst hst; exact ⟨s, _, e, hK1, plus_same h hK1⟩
    · by_cases hc : x ≤ y * 2 ^ (f - e).toNat
      · exact ⟨t, _, e, hK1, plus_second h hK1 hst hc⟩
      · exact ⟨s, _, e, hK1, plus_first h hK1 hst (by omega)⟩
  · by_cases hst : s = t
    · subst hst; exact ⟨s, _, f, hK2, by have := plus_same (K := KK) (s := s) (m := y) (n := x) (e := f) (f := e) (by omega) hK2; rw [this]; omega⟩
    · by_cases hc : y ≤ x * 2 ^ (e - f).toNat
      · exact ⟨s, _, f, hK2, by have := plus_second (K := KK) (s := t) (t := s) (m := y) (n := x) (e := f) (f := e) (by omega) hK2 (Ne.symm hst) hc; rw [this]; omega⟩
      · exact ⟨t, _, f, hK2, by have := plus_first (K := KK) (s := t) (t := s) (m := y) (n := x) (e := f) (f := e) (by omega) hK2 (Ne.symm hst) (by omega); rw [this]; omega⟩
theorem far_aux {s t neg : Bool} {p q u v : Nat} {e f g : Int} (hK1 : 0 ≤ e + KK) (hK3 : 0 ≤ g + KK) (hef : 262144 < f - e) (hp : 2 * p + 1 < 18446744073709551616 ^ L4096) (hw : sv KK neg (2 ^ u * (2 * v + 1)) g = sv KK s (2 * p + 1) e + sv KK t (2 * q + 1) f) : ¬ Fits (2 * v + 1) (g + (u : Int)) := by
  intro hF
  obtain ⟨d, hd⟩ : ∃ d : Nat, f = e + d := ⟨(f - e).toNat, by omega⟩
  subst hd
  have hP : (e + (d : Int) + KK).toNat = d + (e + KK).toNat := by omega
  have ha := sv_abs KK neg (2 ^ u * (2 * v + 1)) g
  rw [hw] at ha
  obtain ⟨d, rfl⟩ : ∃ d', d = d' + 1 := ⟨d - 1, by omega⟩
  -- the odd size beside 2^(e + KK)
  obtain ⟨z, hz1, hz2⟩ : ∃ z, (sv KK s (2 * p + 1) e + sv KK t (2 * q + 1) (e + ((d + 1 : Nat) : Int))).natAbs = (2 * z + 1) * 2 ^ (e + KK).toNat ∧ 2 ^ (d + 1) ≤ 2 * z + 1 + (2 * p + 1) := by
    have hq : (2 * q + 1) * 2 ^ (d + 1) = 2 * ((2 * q + 1) * 2 ^ d) := by rw [Nat.pow_succ]; ac_rfl
    have hge : 1 * 2 ^ (d + 1) ≤ (2 * q + 1) * 2 ^ (d + 1) := Nat.mul_le_mul_right _ (by omega)
    unfold sv
    rw [hP, Nat.pow_add, ← Nat.mul_assoc]
    generalize (2 * q + 1) * 2 ^ (d + 1) = Y at *
    generalize (2 * q + 1) * 2 ^ d = Y2 at *
    generalize 2 ^ (e + KK).toNat = P at *
    generalize 2 ^ (d + 1) = D at *
    have big : 2 * p + 1 < Y ∨ Y < 2 * p + 1 := by omega
    rcases big with big | big
    · by_cases hst : s = t
      · refine ⟨p + Y2, ?_, by omega⟩
        subst hst
        have e1 : (2 * (p + Y2) + 1) * P = (2 * p + 1) * P + Y * P := by rw [← Nat.add_mul]; congr 1; omega
        rw [e1]
        cases s <;> simp only [Bool.false_eq_true, if_false, if_true] <;> omega
      · refine ⟨Y2 - p - 1, ?_, by omega⟩
        have e1 : (2 * (Y2 - p - 1) + 1) * P + (2 * p + 1) * P = Y * P := by rw [← Nat.add_mul]; congr 1; omega
        cases s <;> cases t <;> simp only [Bool.false_eq_true, if_false, if_true] <;> first | exact absurd rfl hst | omega
    · by_cases hst : s = t
      · refine ⟨p + Y2, ?_, by omega⟩
        subst hst
        have e1 : (2 * (p + Y2) + 1) * P = (2 * p + 1) * P + Y * P := by rw [← Nat.add_mul]; congr 1; omega
        rw [e1]
        cases s <;> simp only [Bool.false_eq_true, if_false, if_true] <;> omega
      · refine ⟨p - Y2, ?_, by omega⟩
        have e1 : (2 * (p - Y2) + 1) * P + Y * P = (2 * p + 1) * P := by rw [← Nat.add_mul]; congr 1; omega
        cases s <;> cases t <;> simp only [Bool.false_eq_true, if_false, if_true] <;> first | exact absurd rfl hst | omega
  rw [hz1] at ha
  have hu := odd_unique (t := (e + KK).toNat) (q := z) (t' := u + (g + KK).toNat) (q' := v) (by rw [Nat.mul_comm, ha, Nat.pow_add]; ac_rfl)
  obtain ⟨_, rfl⟩ := hu
  have h1 := hF.1
  rw [pow64] at h1 hp
  have h2 : 2 ^ (64 * L4096) * 2 ≤ 2 ^ (d + 1) := by
    rw [← Nat.pow_succ]
    exact Nat.pow_le_pow_right (by omega) (by rw [L4096_eq]; omega)
  omega
/-- too far apart: too long -/
theorem far_setv (w : World) (s t : Bool) (x y : Nat) (e f : Int) (hx : x = 0 ∨ ∃ q, x = 2 * q + 1) (hy : y = 0 ∨ ∃ q, y = 2 * q + 1) (x0 : 0 < x) (y0 : 0 < y) (bx : x < 18446744073709551616 ^ L4096) (by' : y < 18446744073709551616 ^ L4096) (hK1 : 0 ≤ e + KK) (hK2 : 0 ≤ f + KK) (hef : 262144 < max e f - min e f) :
    SetV w (.returned (.tuple #[zeroD, .int .i64 3])) (sv KK s x e + sv KK t y f) := by
  obtain ⟨p, rfl⟩ : ∃ q, x = 2 * q + 1 := by rcases hx with h | h; omega; exact h
  obtain ⟨q, rfl⟩ : ∃ q, y = 2 * q + 1 := by rcases hy with h | h; omega; exact h
  obtain ⟨neg, m, g, hg, hw⟩ := sum_form s t (2 * p + 1) (2 * q + 1) e f hK1 hK2
  refine ⟨neg, m, g, hg, hw, ?_⟩
  by_cases hm : m = 0
  · exfalso
    subst hm
    rw [sv_zero] at hw
    have hst : sv KK s (2 * p + 1) e = sv KK (!t) (2 * q + 1) f := by rw [sv_neg]; omega
    have := sv_odd_one hK1 hK2 hst
    omega
  · obtain ⟨u, v, rfl⟩ := odd_form m (by omega)
    unfold Settled
    refine Or.inr (Or.inr ⟨u, v, rfl, ?_, rfl⟩)
    by_cases h : e ≤ f
    · exact far_aux hK1 hg (by omega) bx hw
    · exact far_aux (s := t) (t := s) (p := q) (q := p) (e := f) (f := e) hK2 hg (by omega) by' (by rw [hw]; omega)
end Go.Proofs.Ytcgbdpgfpickaaa
namespace Go.Proofs.Ytcgbdpgfpickaaa
open Go.RowKit
set_option linter.unusedVariables false

end Go.Proofs.Ytcgbdpgfpickaaa
namespace Go.Proofs.Ytcgbdpgfpickaaa
open Go.RowKit
set_option linter.unusedVariables false

theorem DyAt.bl {w : World} {s : Bool} {ad : Option Addr} {n cap : Nat} {e : Int} {x : Nat} (h : DyAt w s ad n cap e x) : bl x ≤ 262144 := by
  obtain ⟨xs, h1, h2⟩ := h.lim
  have h3 := bl_len h2
  rw [h1.len] at h3
  have := h.le
  omega
theorem DyAt.lt {w : World} {s : Bool} {ad : Option Addr} {n cap : Nat} {e : Int} {x : Nat} (h : DyAt w s ad n cap e x) : x < 18446744073709551616 ^ L4096 := by
  obtain ⟨xs, h1, h2⟩ := h.lim
  refine Nat.lt_of_lt_of_le h2.upper (Nat.pow_le_pow_right (by omega) ?_)
  rw [h1.len, L4096_eq]; exact h.le
theorem DyAt.odd {w : World} {s : Bool} {ad : Option Addr} {n cap : Nat} {e : Int} {x : Nat} (h : DyAt w s ad n cap e x) : x = 0 ∨ ∃ q, x = 2 * q + 1 := by
  rcases h.right with ⟨h, _⟩ | ⟨q, h, _⟩
  · exact Or.inl h
  · exact Or.inr ⟨q, h⟩
theorem bl_mul (x y : Nat) : bl (x * y) ≤ bl x + bl y := by
  refine bl_le_of_lt ?_
  rw [Nat.pow_add]
  exact Nat.mul_lt_mul'' (bl_lt x) (bl_lt y)
end Go.Proofs.Ytcgbdpgfpickaaa
namespace Go.Proofs.Ytcgbdpgfpickaaa
open Go.RowKit
set_option linter.unusedVariables false

end Go.Proofs.Ytcgbdpgfpickaaa
namespace Go.Proofs.Ytcgbdpgfpickaaa
open Go.RowKit
set_option linter.unusedVariables false

def greatB (n : Nat) (e : Int) : Bool := decide (64 < n ∨ (20000 < e ∧ e < 524288) ∨ (e < -20000 ∧ -524288 < e))
end Go.Proofs.Ytcgbdpgfpickaaa
namespace Go.Proofs.Ytcgbdpgfpickaaa
open Go.RowKit
set_option linter.unusedVariables false

/-- told: that sign, size, power and error -/
def Told (S : Bool) (X : Nat) (E G : Int) (w1 : World) (r : Ending) (w' : World) : Prop := ∃ ad n cap, r = .returned (.tuple #[.agg #[.bool S, .slice ad n cap, .int .i64 E], .int .i64 G]) ∧ Lim w' ad n cap 18446744073709551616 X ∧ Gr w1 w'
/-- both tell the same, in every grown world -/
def Both (f g : Nat) (args : Array Value) (w : World) : Prop := ∃ S X E G, (∀ w1, Gr w w1 → Calls Try.prog f args w1 (Told S X E G w1)) ∧ (∀ w1, Gr w w1 → Calls Try.prog g args w1 (Told S X E G w1))
theorem both_set {f g : Nat} {args : Array Value} {w : World} (V : Int) (h1 : ∀ w1, Gr w w1 → Calls Try.prog f args w1 fun r w' => SetV w' r V ∧ Gr w1 w') (h2 : ∀ w1, Gr w w1 → Calls Try.prog g args w1 fun r w' => SetV w' r V ∧ Gr w1 w') : Both f g args w := by
  obtain ⟨S, X, E, G, h⟩ := setv_ans V
  refine ⟨S, X, E, G, fun w1 g1 => (h1 w1 g1).mono ?_, fun w1 g1 => (h2 w1 g1).mono ?_⟩
  · rintro r w' ⟨hs, hg⟩
    obtain ⟨s, ad, n, cap, e, g, rfl, hA⟩ := h _ _ hs
    obtain ⟨rfl, rfl, rfl, hl⟩ := hA
    exact ⟨ad, n, cap, rfl, hl, hg⟩
  · rintro r w' ⟨hs, hg⟩
    obtain ⟨s, ad, n, cap, e, g, rfl, hA⟩ := h _ _ hs
    obtain ⟨rfl, rfl, rfl, hl⟩ := hA
    exact ⟨ad, n, cap, rfl, hl, hg⟩
theorem both_no {f g : Nat} {args : Array Value} {w : World} (G : Int) (h1 : ∀ w1, Gr w w1 → Calls Try.prog f args w1 fun r w' => r = .returned (.tuple #[zeroD, .int .i64 G]) ∧ Gr w1 w') (h2 : ∀ w1, Gr w w1 → Calls Try.prog g args w1 fun r w' => r = .returned (.tuple #[zeroD, .int .i64 G]) ∧ Gr w1 w') : Both f g args w := by
  refine ⟨false, 0, 0, G, fun w1 g1 => (h1 w1 g1).mono ?_, fun w1 g1 => (h2 w1 g1).mono ?_⟩
  · rintro r w' ⟨rfl, hg⟩
    exact ⟨none, 0, 0, rfl, nil_lim _, hg⟩
  · rintro r w' ⟨rfl, hg⟩
    exact ⟨none, 0, 0, rfl, nil_lim _, hg⟩
theorem settled_far {w : World} {r : Ending} {s : Bool} {q : Nat} {E : Int} (h : Settled w r s (2 * q + 1) E) (hE : E < -1048576 ∨ 1048576 < E) : r = .returned (.tuple #[zeroD, .int .i64 3]) := by
  unfold Settled at h
  rcases h with ⟨h, _⟩ | ⟨t, q', ad, n, cap, hx, hF, _⟩ | ⟨_, _, _, _, h⟩
  · omega
  · have := odd_unique (t := 0) (q := q) (t' := t) (q' := q') (by rw [Nat.pow_zero, Nat.one_mul]; exact hx)
    have h2 := hF.2
    omega
  · exact h
end Go.Proofs.Ytcgbdpgfpickaaa
namespace Go.Proofs.Ytcgbdpgfpickaaa
open Go.RowKit
set_option linter.unusedVariables false

/-! CUT -/
end Go.Proofs.Ytcgbdpgfpickaaa
namespace Go.Proofs.Ytcgbdpgfpickaaa
open Go.RowKit
set_option linter.unusedVariables false

theorem lost_odd {q t : Nat} (ht : 0 < t) : lostB (2 * q + 1) t = true := by
  unfold lostB
  refine decide_eq_true fun h => ?_
  obtain ⟨u, rfl⟩ : ∃ u, t = u + 1 := ⟨t - 1, by omega⟩
  have hd := Nat.dvd_of_mod_eq_zero h
  rw [Nat.pow_succ, Nat.mul_comm] at hd
  obtain ⟨c, hc⟩ := hd
  rw [Nat.mul_assoc] at hc
  omega
end Go.Proofs.Ytcgbdpgfpickaaa
namespace Go.Proofs.Ytcgbdpgfpickaaa
open Go.RowKit
set_option linter.unusedVariables false

end Go.Proofs.Ytcgbdpgfpickaaa
namespace Go.Proofs.Ytcgbdpgfpickaaa
open Go.RowKit
set_option linter.unusedVariables false

end Go.Proofs.Ytcgbdpgfpickaaa
namespace Go.Proofs.Ytcgbdpgfpickaaa
open Go.RowKit
set_option linter.unusedVariables false

theorem and32 {v : Nat} (h : v < 18446744073709551616) : bits .and .u64 (v : Int) 4294967295 = ((v % 4294967296 : Nat) : Int) := by
  rw [show (4294967295 : Int) = ((2 ^ 32 - 1 : Nat) : Int) from rfl, bits_and_u64_nat _ _ h (by decide), Nat.and_two_pow_sub_one_eq_mod]
theorem or_high {s hi lo : Nat} (hs : s < 64) (hl : lo < 18446744073709551616) (hh : hi * 2 ^ s < 18446744073709551616) : bits .or .u64 ((hi * 2 ^ s : Nat) : Int) ((lo / 2 ^ (64 - s) : Nat) : Int) = ((hi * 2 ^ s + lo / 2 ^ (64 - s) : Nat) : Int) := by
  have h1 := shr_lt hs hl
  rw [bits_or_u64_nat _ _ hh (by have : 2 ^ s ≤ 2 ^ 63 := Nat.pow_le_pow_right (by omega) (by omega); omega), Nat.or_comm, or_add h1, Nat.add_comm]
/-- what Div64 shifts: all as whole numbers -/
structure DivN (hi lo y s Y y1 y0 H l10 u1 u0 : Nat) : Prop where
  eY : Y = y * 2 ^ s
  eY' : Y = y1 * 4294967296 + y0
  bY : Y < 18446744073709551616
  b1 : 2147483648 ≤ y1
  b1' : y1 < 4294967296
  b0 : y0 < 4294967296
  eH : H = hi * 2 ^ s + lo / 2 ^ (64 - s)
  hH : H < Y
  el : l10 = u1 * 4294967296 + u0
  bu1 : u1 < 4294967296
  bu0 : u0 < 4294967296
  el' : lo * 2 ^ s % 18446744073709551616 = l10
  val : (hi * 18446744073709551616 + lo) * 2 ^ s = (H * 4294967296 + u1) * 4294967296 + u0
theorem divN {hi lo y s : Nat} (hy : hi < y) (by' : y < 18446744073709551616) (hl : lo < 18446744073709551616) (hs : s = 64 - bl y) (hs64 : s < 64) : ∃ Y y1 y0 H l10 u1 u0, DivN hi lo y s Y y1 y0 H l10 u1 u0 := by
  obtain ⟨n1, n2⟩ := norm_lt by' (by omega)
  rw [← hs] at n1 n2
  have p := shl_parts hs64 hl
  have q := shr_lt hs64 hl
  have hm : hi * 2 ^ s + 2 ^ s ≤ y * 2 ^ s := by rw [← Nat.succ_mul]; exact Nat.mul_le_mul_right _ hy
  refine ⟨y * 2 ^ s, y * 2 ^ s / 4294967296, y * 2 ^ s % 4294967296, hi * 2 ^ s + lo / 2 ^ (64 - s), lo * 2 ^ s % 18446744073709551616, lo * 2 ^ s % 18446744073709551616 / 4294967296, lo * 2 ^ s % 18446744073709551616 % 4294967296, rfl, by omega, n1, by omega, by omega, Nat.mod_lt _ (by omega), rfl, by omega, by omega, ?_, Nat.mod_lt _ (by omega), rfl, ?_⟩
  · have := Nat.mod_lt (lo * 2 ^ s) (show 0 < 18446744073709551616 by omega)
    omega
  · rw [Nat.add_mul, Nat.mul_right_comm]
    generalize hi * 2 ^ s = a at *
    generalize lo / 2 ^ (64 - s) = b at *
    generalize lo * 2 ^ s = c at *
    omega
theorem wrap_diff {a b c r : Int} (h : a + b - c = r) (h0 : 0 ≤ r) (h1 : r < 18446744073709551616) : IntKind.u64.wrap (IntKind.u64.wrap (IntKind.u64.wrap a + b) - IntKind.u64.wrap c) = r := by
  simp only [IntKind.wrap_u64]
  omega
theorem rem_int {U Y q r : Nat} (hq : q = U / Y) (hr : r = U % Y) : (U : Int) - (q : Int) * (Y : Int) = (r : Int) := by
  have := Nat.div_add_mod U Y
  rw [← hq, ← hr, Nat.mul_comm] at this
  rw [← Int.natCast_mul]
  omega
end Go.Proofs.Ytcgbdpgfpickaaa
namespace Go.Proofs.Ytcgbdpgfpickaaa
open Go.RowKit
set_option linter.unusedVariables false

theorem nv_drop_end {l : List Nat} {k : Nat} (h : l.length ≤ k) : nv 18446744073709551616 (l.drop k) = 0 := by rw [List.drop_of_length_le h]; rfl
theorem bl_pos' {y : Nat} (h : 0 < y) : 0 < bl y := by
  rw [bl_pos h]; omega
end Go.Proofs.Ytcgbdpgfpickaaa
namespace Go.Proofs.Ytcgbdpgfpickaaa
open Go.RowKit
set_option linter.unusedVariables false

/-- the upper three limbs against the upper two -/
theorem top_three {zs ys : List Nat} {k t : Nat} (hz : ∀ z ∈ zs, z < 18446744073709551616) (hy : ∀ z ∈ ys, z < 18446744073709551616) (hl : k + t + 3 ≤ zs.length) (hn : ys.length = t + 2) (hu : nv 18446744073709551616 zs < 18446744073709551616 ^ (k + t + 3)) (hv : 0 < ys.getD (t + 1) 0) :
    nv 18446744073709551616 zs / 18446744073709551616 ^ k / nv 18446744073709551616 ys ≤ ((zs.getD (k + t + 2) 0 * 18446744073709551616 + zs.getD (k + t + 1) 0) * 18446744073709551616 + zs.getD (k + t) 0) / (ys.getD (t + 1) 0 * 18446744073709551616 + ys.getD t 0) := by
  have a0 := nv_take_zeros 18446744073709551616 zs (k + t + 3) (fun i h1 _ => upper_zero (by omega) hu i h1)
  rw [nv_take_succ, nv_take_succ, nv_take_succ] at a0
  have a1 := nv_lt 18446744073709551616 (zs.take (k + t)) (fun x hx => hz x (List.mem_of_mem_take hx))
  rw [List.length_take, Nat.min_eq_left (by omega)] at a1
  have b0 := nv_take_all 18446744073709551616 ys (t + 2) (by omega)
  rw [nv_take_succ, nv_take_succ] at b0
  rw [show k + t + 2 = k + t + 1 + 1 from rfl, Nat.pow_succ, Nat.pow_succ] at a0
  rw [Nat.pow_succ] at b0
  refine three_le (B := 18446744073709551616) (P := 18446744073709551616 ^ t) (Nat.pow_pos (by omega)) ?_ ?_ (by omega)
  · refine (Nat.div_lt_iff_lt_mul (Nat.pow_pos (by omega))).2 ?_
    rw [← a0, Nat.mul_assoc (_ + 1), ← Nat.pow_add, Nat.add_comm t k, show k + t + 2 = k + t + 1 + 1 from rfl, Nat.pow_succ 18446744073709551616 (k + t)]
    generalize 18446744073709551616 ^ (k + t) = P at *
    generalize nv 18446744073709551616 (zs.take (k + t)) = L at *
    generalize zs.getD (k + t) 0 = p0 at *
    generalize zs.getD (k + t + 1) 0 = p1 at *
    generalize zs.getD (k + t + 1 + 1) 0 = p2 at *
    have e : ((p2 * 18446744073709551616 + p1) * 18446744073709551616 + p0 + 1) * P = P * p0 + P * 18446744073709551616 * p1 + P * 18446744073709551616 * 18446744073709551616 * p2 + P := by
      rw [Nat.add_mul, Nat.one_mul, Nat.add_mul, Nat.mul_comm p0 P, Nat.add_mul, Nat.add_mul]
      have f1 : p2 * 18446744073709551616 * 18446744073709551616 * P = P * 18446744073709551616 * 18446744073709551616 * p2 := by ac_rfl
      have f2 : p1 * 18446744073709551616 * P = P * 18446744073709551616 * p1 := by ac_rfl
      rw [f1, f2]
      omega
    rw [e]
    omega
  · rw [← b0]
    generalize 18446744073709551616 ^ t = P at *
    generalize ys.getD t 0 = v0 at *
    generalize ys.getD (t + 1) 0 = v1 at *
    have e : (v1 * 18446744073709551616 + v0) * P = P * v0 + P * 18446744073709551616 * v1 := by
      rw [Nat.add_mul, Nat.mul_comm v0 P]
      have f1 : v1 * 18446744073709551616 * P = P * 18446744073709551616 * v1 := by ac_rfl
      rw [f1]
      omega
    rw [e]
    omega
theorem pow_pos64 (k : Nat) : 0 < 18446744073709551616 ^ k := Nat.pow_pos (by omega)
theorem lt_of_mul64 {Z V k : Nat} (h : Z < 18446744073709551616 ^ (k + 1) * V) : Z / 18446744073709551616 ^ k / V < 18446744073709551616 := by
  have hV0 : 0 < V := Nat.pos_of_ne_zero fun h' => by rw [h', Nat.mul_zero] at h; omega
  refine (Nat.div_lt_iff_lt_mul hV0).2 ((Nat.div_lt_iff_lt_mul (pow_pos64 k)).2 ?_)
  rw [Nat.pow_succ] at h
  generalize 18446744073709551616 ^ k = P at *
  have e : P * 18446744073709551616 * V = 18446744073709551616 * V * P := by ac_rfl
  omega
theorem lt_pow64 {Z V k m : Nat} (h : Z < 18446744073709551616 ^ (k + 1) * V) (hV : V < 18446744073709551616 ^ m) : Z < 18446744073709551616 ^ (k + 1 + m) := by
  rw [Nat.pow_add]
  have := Nat.mul_lt_mul_of_pos_left hV (pow_pos64 (k + 1))
  omega
theorem keep5 {W wo wn : World} {b1 b2 b3 b4 b5 o1 o2 o3 o4 o5 : Nat} {v1 v2 v3 v4 v5 : Value} (g : Gr wo wn) (h : wo.cell? ⟨b1, o1, none⟩ = some v1 ∧ wo.cell? ⟨b2, o2, none⟩ = some v2 ∧ wo.cell? ⟨b3, o3, none⟩ = some v3 ∧ wo.cell? ⟨b4, o4, none⟩ = some v4 ∧ wo.cell? ⟨b5, o5, none⟩ = some v5 ∧ Gr W wo) :
    wn.cell? ⟨b1, o1, none⟩ = some v1 ∧ wn.cell? ⟨b2, o2, none⟩ = some v2 ∧ wn.cell? ⟨b3, o3, none⟩ = some v3 ∧ wn.cell? ⟨b4, o4, none⟩ = some v4 ∧ wn.cell? ⟨b5, o5, none⟩ = some v5 ∧ Gr W wn := ⟨g.keep h.1, g.keep h.2.1, g.keep h.2.2.1, g.keep h.2.2.2.1, g.keep h.2.2.2.2.1, h.2.2.2.2.2.trans g⟩
end Go.Proofs.Ytcgbdpgfpickaaa
namespace Go.Proofs.Ytcgbdpgfpickaaa
open Go.RowKit
set_option linter.unusedVariables false

/-- what nextLimb holds: the row, what it is guessed at, what is borrowed -/
structure LimbAt (zs : List Nat) (k m R0 V x b N : Nat) : Prop where
  len : zs.length = N
  lt : ∀ z ∈ zs, z < 18446744073709551616
  val : nv 18446744073709551616 zs + 18446744073709551616 ^ k * (x * V) = R0 + 18446744073709551616 ^ m * b
  up : nv 18446744073709551616 zs < 18446744073709551616 ^ m
  ge : R0 / 18446744073709551616 ^ k / V ≤ x
theorem LimbAt.pos {zs : List Nat} {k m R0 V x N : Nat} (h : LimbAt zs k m R0 V x 1 N) (hV : 0 < V) : R0 / 18446744073709551616 ^ k / V < x :=
  limb_less (Q := 18446744073709551616 ^ m) (pow_pos64 k) hV h.up (by have := h.val; rwa [Nat.mul_one] at this)
theorem LimbAt.next {ys zs zs' : List Nat} {k m R0 V x c N j : Nat} (h : LimbAt zs k m R0 V x 1 N) (hV : 0 < V) (p : PutAt ys zs' zs k j c N) (hm : m = k + j) (hmN : m ≤ N) (hj : nv 18446744073709551616 (ys.take j) = V) (hc : c ≤ 1) : LimbAt zs' k m R0 V (x - 1) (1 - c) N := by
  have hx := h.pos hV
  have xp : 0 < x := Nat.lt_of_le_of_lt (Nat.zero_le _) hx
  have hz : ∀ i, m ≤ i → zs'.getD i 0 = 0 := fun i hi => by
    rw [p.rest i (by omega)]
    exact upper_zero (by omega) h.up i hi
  refine ⟨p.len, p.lt, ?_, upper_lt p.lt hz (by rw [p.len]; exact hmN), Nat.le_sub_one_of_lt hx⟩
  have h1 := h.val
  have h2 := p.val
  rw [hj, ← hm] at h2
  obtain ⟨d, rfl⟩ : ∃ d, x = d + 1 := ⟨x - 1, by omega⟩
  rw [Nat.add_sub_cancel]
  rw [Nat.add_mul, Nat.one_mul, Nat.mul_add] at h1
  generalize 18446744073709551616 ^ k * (d * V) = A at *
  generalize 18446744073709551616 ^ k * V = C at *
  generalize 18446744073709551616 ^ m = Q at *
  rcases (show c = 0 ∨ c = 1 by omega) with rfl | rfl <;> omega
end Go.Proofs.Ytcgbdpgfpickaaa
