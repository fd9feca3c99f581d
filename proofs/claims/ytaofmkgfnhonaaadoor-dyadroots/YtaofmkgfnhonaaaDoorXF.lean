import Derived.Test.YtaofmkgfnhonaaaDoorXE
namespace Go.Proofs.YtaofmkgfnhonaaaDoor
open Go.RowKit
set_option linter.unusedVariables false

/-- what sum tells: too far apart, or a number of the right worth -/
theorem sum29 (s t : Bool) (ad1 ad2 : Option Addr) (n1 n2 c1 c2 x y : Nat) (e f : Int) (w : World) (hx : Lim w ad1 n1 c1 18446744073709551616 x) (hy : Lim w ad2 n2 c2 18446744073709551616 y) (b1 : n1 ≤ 4096) (b2 : n2 ≤ 4096) (e1 : -1048576 ≤ e) (e2 : e ≤ 1048576) (f1 : -1048576 ≤ f) (f2 : f ≤ 1048576) :
    (0 < x ∧ 0 < y ∧ 262144 < max e f - min e f ∧ Calls Tryd.prog 24 #[.agg #[.bool s, .slice ad1 n1 c1, .int .i64 e], .agg #[.bool t, .slice ad2 n2 c2, .int .i64 f]] w fun r w' => r = .returned (.tuple #[zeroD, .int .i64 3]) ∧ Gr w w') ∨
    (∃ neg m g, (∀ K, 0 ≤ e + K → 0 ≤ f + K → 0 ≤ g + K ∧ sv K neg m g = sv K s x e + sv K t y f) ∧ -1048576 ≤ g ∧ g ≤ 1048576 ∧
      Calls Tryd.prog 24 #[.agg #[.bool s, .slice ad1 n1 c1, .int .i64 e], .agg #[.bool t, .slice ad2 n2 c2, .int .i64 f]] w fun r w' => ∃ ad n cap, r = .returned (.tuple #[.agg #[.bool neg, .slice ad n cap, .int .i64 g], .int .i64 0]) ∧ n ≤ 1099511627776 ∧ Lim w' ad n cap 18446744073709551616 m ∧ Gr w w') := by
  by_cases x0 : x = 0
  · subst x0
    have hn := lim_zero hx
    subst hn
    refine Or.inr ⟨t, y, f, fun K _ h => ⟨h, by rw [sv_zero]; omega⟩, f1, f2, (sum_z1 s t ad1 ad2 n2 c1 c2 y e f w hy).mono ?_⟩
    rintro r w' ⟨rfl, h1, h2⟩
    exact ⟨_, _, _, rfl, by omega, h1, h2⟩
  obtain ⟨k1, rfl⟩ := lim_pos hx (by omega)
  by_cases y0 : y = 0
  · subst y0
    have hn := lim_zero hy
    subst hn
    refine Or.inr ⟨s, x, e, fun K h _ => ⟨h, by rw [sv_zero]; omega⟩, e1, e2, (sum_z2 s t ad1 ad2 k1 c1 c2 x e f w hx).mono ?_⟩
    rintro r w' ⟨rfl, h1, h2⟩
    exact ⟨_, _, _, rfl, by omega, h1, h2⟩
  obtain ⟨k2, rfl⟩ := lim_pos hy (by omega)
  by_cases hef : 262144 < max e f - min e f
  · exact Or.inl ⟨by omega, by omega, hef, sum_far s t ad1 ad2 k1 k2 c1 c2 e f w e1 e2 f1 f2 hef⟩
  refine Or.inr ?_
  have hde : e - min e f = (((e - min e f).toNat : Nat) : Int) := by omega
  have hdf : f - min e f = (((f - min e f).toNat : Nat) : Int) := by omega
  by_cases hst : s = t
  · subst hst
    refine ⟨s, _, min e f, ?_, by omega, by omega, sum_same s ad1 ad2 k1 k2 c1 c2 x y _ _ e f w hx hy (by omega) (by omega) e1 e2 f1 f2 hef hde hdf⟩
    intro K hK1 hK2
    by_cases h : e ≤ f
    · rw [show min e f = e by omega, show (e - e).toNat = 0 by omega, Nat.pow_zero, Nat.mul_one]
      exact ⟨hK1, plus_same h hK1⟩
    · rw [show min e f = f by omega, show (f - f).toNat = 0 by omega, Nat.pow_zero, Nat.mul_one, Nat.add_comm]
      exact ⟨hK2, by rw [plus_same (by omega) hK2]; omega⟩
  · have hst' : (s == t) = false := by simp [hst]
    by_cases hc : x * 2 ^ (e - min e f).toNat < y * 2 ^ (f - min e f).toNat
    · refine ⟨t, _, min e f, ?_, by omega, by omega, sum_less s t hst' ad1 ad2 k1 k2 c1 c2 x y _ _ e f w hx hy (by omega) (by omega) e1 e2 f1 f2 hef hde hdf hc⟩
      intro K hK1 hK2
      by_cases h : e ≤ f
      · rw [show min e f = e by omega, show (e - e).toNat = 0 by omega, Nat.pow_zero, Nat.mul_one] at hc ⊢
        exact ⟨hK1, plus_second h hK1 hst (Nat.le_of_lt hc)⟩
      · rw [show min e f = f by omega, show (f - f).toNat = 0 by omega, Nat.pow_zero, Nat.mul_one] at hc ⊢
        exact ⟨hK2, by rw [plus_first (by omega) hK2 (Ne.symm hst) (Nat.le_of_lt hc)]; omega⟩
    · refine ⟨s, _, min e f, ?_, by omega, by omega, sum_more s t hst' ad1 ad2 k1 k2 c1 c2 x y _ _ e f w hx hy (by omega) (by omega) e1 e2 f1 f2 hef hde hdf hc⟩
      intro K hK1 hK2
      by_cases h : e ≤ f
      · rw [show min e f = e by omega, show (e - e).toNat = 0 by omega, Nat.pow_zero, Nat.mul_one] at hc ⊢
        exact ⟨hK1, plus_first h hK1 hst (Nat.le_of_not_lt hc)⟩
      · rw [show min e f = f by omega, show (f - f).toNat = 0 by omega, Nat.pow_zero, Nat.mul_one] at hc ⊢
        exact ⟨hK2, by rw [plus_second (by omega) hK2 (Ne.symm hst) (Nat.le_of_not_lt hc)]; omega⟩
end Go.Proofs.YtaofmkgfnhonaaaDoor
