import Derived.Test.YthilajhciifhaaaGreatDoorM07
namespace Go.Proofs.YthilajhciifhaaaGreatDoor
open Go.RowKit
set_option linter.unusedVariables false

/-! RIGHT DYADS AND THEIR WORTH, in units of 2^-KK -/
def KN : Nat := 4194304
def KK : Int := (KN : Int)
theorem KN_eq : KN = 4194304 := rfl
theorem KK_eq : KK = 4194304 := rfl
structure DyAt (w : World) (s : Bool) (ad : Option Addr) (n cap : Nat) (e : Int) (x : Nat) : Prop where
  lim : Lim w ad n cap 18446744073709551616 x
  le : n ≤ 4096
  right : (x = 0 ∧ s = false ∧ e = 0) ∨ (∃ q, x = 2 * q + 1 ∧ -1048576 ≤ e ∧ e ≤ 1048576)
theorem DyAt.gr {w w' : World} {s : Bool} {ad : Option Addr} {n cap : Nat} {e : Int} {x : Nat} (h : DyAt w s ad n cap e x) (g : Gr w w') : DyAt w' s ad n cap e x := ⟨h.lim.gr g, h.le, h.right⟩
theorem DyAt.low {w : World} {s : Bool} {ad : Option Addr} {n cap : Nat} {e : Int} {x : Nat} (h : DyAt w s ad n cap e x) : -1048576 ≤ e := by
  rcases h.right with ⟨_, _, h⟩ | ⟨_, _, h, _⟩ <;> omega
theorem DyAt.high {w : World} {s : Bool} {ad : Option Addr} {n cap : Nat} {e : Int} {x : Nat} (h : DyAt w s ad n cap e x) : e ≤ 1048576 := by
  rcases h.right with ⟨_, _, h⟩ | ⟨_, _, _, h⟩ <;> omega
theorem DyAt.rightD {w : World} {s : Bool} {ad : Option Addr} {n cap : Nat} {e : Int} {x : Nat} (h : DyAt w s ad n cap e x) : ∃ xs, Row w ad n cap xs ∧ Dg 18446744073709551616 x xs ∧ RightD s xs e := by
  obtain ⟨xs, h1, h2⟩ := h.lim
  refine ⟨xs, h1, h2, ?_⟩
  rcases h.right with ⟨rfl, rfl, rfl⟩ | ⟨q, rfl, e1, e2⟩
  · exact Or.inl ⟨(h2.zero_iff (by omega)).2 rfl, rfl, rfl⟩
  · refine (right_iff h2).2 ⟨?_, e1, e2⟩
    refine Nat.lt_of_lt_of_le h2.upper (Nat.pow_le_pow_right (by omega) ?_)
    rw [h1.len, L4096_eq]; exact h.le
/-- Right tells true of it, wherever memory has only grown -/
theorem DyAt.r26 {w : World} {s : Bool} {ad : Option Addr} {n cap : Nat} {e : Int} {x : Nat} (h : DyAt w s ad n cap e x) : Hid (∀ w1, Gr w w1 → Calls Tryz.prog 44 #[.agg #[.bool s, .slice ad n cap, .int .i64 e]] w1 fun r w' => r = .returned (.bool true) ∧ Gr w1 w') := by
  obtain ⟨xs, h1, h2, h3⟩ := h.rightD
  intro w1 g
  have := right26 s ad n cap e xs w1 (h1.gr g) h2.2.1
  rw [rightB_t h3] at this
  exact this
/-- a right dyad of that worth -/
def DyV (w : World) (s : Bool) (ad : Option Addr) (n cap : Nat) (e : Int) (V : Int) : Prop := ∃ x, DyAt w s ad n cap e x ∧ sv KK s x e = V
theorem DyV.gr {w w' : World} {s : Bool} {ad : Option Addr} {n cap : Nat} {e V : Int} (h : DyV w s ad n cap e V) (g : Gr w w') : DyV w' s ad n cap e V := by
  obtain ⟨x, h1, h2⟩ := h
  exact ⟨x, h1.gr g, h2⟩
/-- a whole number of 2^-lo, so many of them that k bits hold it -/
def Gd (lo k : Nat) (V : Int) : Prop := ∃ m : Int, V = m * ((2 ^ (KN - lo) : Nat) : Int) ∧ m.natAbs < 2 ^ k
theorem Gd.add {lo k : Nat} {U V : Int} (h1 : Gd lo k U) (h2 : Gd lo k V) : Gd lo (k + 1) (U + V) := by
  obtain ⟨a, rfl, ha⟩ := h1
  obtain ⟨b, rfl, hb⟩ := h2
  refine ⟨a + b, by rw [Int.add_mul], ?_⟩
  rw [Nat.pow_succ]
  omega
theorem Gd.neg {lo k : Nat} {V : Int} (h : Gd lo k V) : Gd lo k (-V) := by
  obtain ⟨a, rfl, ha⟩ := h
  exact ⟨-a, by rw [Int.neg_mul], by rw [Int.natAbs_neg]; exact ha⟩
theorem Gd.sub {lo k : Nat} {U V : Int} (h1 : Gd lo k U) (h2 : Gd lo k V) : Gd lo (k + 1) (U - V) := by
  rw [Int.sub_eq_add_neg]; exact h1.add h2.neg
theorem Gd.more {lo k l : Nat} {V : Int} (h : Gd lo k V) (hl : k ≤ l) : Gd lo l V := by
  obtain ⟨a, h1, h2⟩ := h
  exact ⟨a, h1, Nat.lt_of_lt_of_le h2 (Nat.pow_le_pow_right (by omega) hl)⟩
theorem odd_core {q a c M k : Nat} (h : (2 * q + 1) * 2 ^ a = M * 2 ^ c) (hM : M < 2 ^ k) : c ≤ a ∧ a < c + k ∧ 2 * q + 1 < 2 ^ k := by
  have hca : c ≤ a := by
    refine Nat.le_of_not_lt fun hlt => ?_
    obtain ⟨d, rfl⟩ : ∃ d, c = a + (d + 1) := ⟨c - a - 1, by omega⟩
    rw [Nat.pow_add, ← Nat.mul_assoc, Nat.mul_right_comm] at h
    have h1 := Nat.eq_of_mul_eq_mul_right (Nat.two_pow_pos a) h
    rw [Nat.pow_succ, ← Nat.mul_assoc] at h1
    omega
  obtain ⟨d, rfl⟩ : ∃ d, a = c + d := ⟨a - c, by omega⟩
  rw [Nat.add_comm c d, Nat.pow_add, ← Nat.mul_assoc] at h
  have h1 := Nat.eq_of_mul_eq_mul_right (Nat.two_pow_pos c) h
  have h2 : 1 * 2 ^ d ≤ (2 * q + 1) * 2 ^ d := Nat.mul_le_mul_right _ (by omega)
  have h3 : (2 * q + 1) * 1 ≤ (2 * q + 1) * 2 ^ d := Nat.mul_le_mul_left _ (Nat.two_pow_pos d)
  refine ⟨hca, ?_, by omega⟩
  have : d < k := (Nat.pow_lt_pow_iff_right (by omega : 1 < 2)).1 (by omega : 2 ^ d < 2 ^ k)
  omega
/-- the right dyad of such a worth is within the limits -/
theorem gd_odd {s : Bool} {t q lo k : Nat} {e V : Int} (hV : sv KK s (2 ^ t * (2 * q + 1)) e = V) (hg : Gd lo k V) (he : 0 ≤ e + KK) (hlo : lo ≤ 100000) : -(lo : Int) ≤ e + t ∧ e + t + lo < k ∧ 2 * q + 1 < 2 ^ k := by
  obtain ⟨m, hm, hk⟩ := hg
  have h1 := sv_abs KK s (2 ^ t * (2 * q + 1)) e
  rw [hV, hm, Int.natAbs_mul, Int.natAbs_natCast] at h1
  have h2 : (2 * q + 1) * 2 ^ (t + (e + KK).toNat) = m.natAbs * 2 ^ (KN - lo) := by
    rw [h1, Nat.pow_add, ← Nat.mul_assoc, Nat.mul_comm (2 * q + 1) (2 ^ t)]
  have h3 := odd_core h2 hk
  have := KK_eq
  have := KN_eq
  omega
theorem gd_fits {s : Bool} {t q lo k : Nat} {e V : Int} (hV : sv KK s (2 ^ t * (2 * q + 1)) e = V) (hg : Gd lo k V) (he : 0 ≤ e + KK) (hlo : lo ≤ 100000) (hk : k ≤ 200000) : Fits (2 * q + 1) (e + t) := by
  have h := gd_odd hV hg he hlo
  refine ⟨Nat.lt_of_lt_of_le h.2.2 ?_, by omega, by omega⟩
  rw [pow64]
  exact Nat.pow_le_pow_right (by omega) (by rw [L4096_eq]; omega)
theorem gd_exp {s : Bool} {q lo k : Nat} {e V : Int} (hV : sv KK s (2 * q + 1) e = V) (hg : Gd lo k V) (he : 0 ≤ e + KK) (hlo : lo ≤ 100000) : -(lo : Int) ≤ e ∧ e + lo < k := by
  have := gd_odd (t := 0) (s := s) (q := q) (e := e) (by rw [Nat.pow_zero, Nat.one_mul]; exact hV) hg he hlo
  simp at this
  omega
/-- what settle tells of a worth within the limits -/
theorem Settled.dyv {w : World} {r : Ending} {s : Bool} {x lo k : Nat} {e V : Int} (h : Settled w r s x e) (hV : sv KK s x e = V) (hg : Gd lo k V) (he : 0 ≤ e + KK) (hlo : lo ≤ 100000) (hk : k ≤ 200000) :
    ∃ s' ad n cap e', r = .returned (.tuple #[.agg #[.bool s', .slice ad n cap, .int .i64 e'], .int .i64 0]) ∧ DyV w s' ad n cap e' V := by
  unfold Settled at h
  rcases h with ⟨rfl, rfl⟩ | ⟨t, q, ad, n, cap, rfl, hf, rfl, hl, hn⟩ | ⟨t, q, rfl, hf, rfl⟩
  · rw [sv_zero] at hV
    exact ⟨false, none, 0, 0, 0, rfl, 0, ⟨⟨[], Row.empty (by omega) (fun _ => rfl), Dg.nil⟩, by omega, Or.inl ⟨rfl, rfl, rfl⟩⟩, by rw [sv_zero]; exact hV⟩
  · refine ⟨s, ad, n, cap, _, rfl, 2 * q + 1, ⟨hl, hn, Or.inr ⟨q, rfl, hf.2.1, hf.2.2⟩⟩, ?_⟩
    rw [← hV]
    have := sv_down KK s (2 * q + 1) (e + t) e (by omega) he
    rw [show (e + (t : Int) - e).toNat = t by omega, Nat.mul_comm] at this
    exact this.symm
  · exact absurd (gd_fits hV hg he hlo hk) hf
/-- a worth has one right dyad -/
theorem sv_one {s t : Bool} {x y : Nat} {e f : Int} (hx : (x = 0 ∧ s = false ∧ e = 0) ∨ (∃ q, x = 2 * q + 1 ∧ -1048576 ≤ e ∧ e ≤ 1048576)) (hy : (y = 0 ∧ t = false ∧ f = 0) ∨ (∃ q, y = 2 * q + 1 ∧ -1048576 ≤ f ∧ f ≤ 1048576)) (h : sv KK s x e = sv KK t y f) : s = t ∧ x = y ∧ e = f := by
  have hk := KK_eq
  rcases hx with ⟨rfl, rfl, rfl⟩ | ⟨p, rfl, e1, e2⟩
  · rw [sv_zero] at h
    have h0 := sv_eq_zero.1 h.symm
    rcases hy with ⟨rfl, rfl, rfl⟩ | ⟨q, rfl, _⟩
    · exact ⟨rfl, rfl, rfl⟩
    · omega
  · rcases hy with ⟨rfl, rfl, rfl⟩ | ⟨q, rfl, f1, f2⟩
    · rw [sv_zero] at h
      have h0 := sv_eq_zero.1 h
      omega
    · have a1 := sv_abs KK s (2 * p + 1) e
      have a2 := sv_abs KK t (2 * q + 1) f
      rw [h, a2] at a1
      have hs : s = t := by
        have s1 := sv_sign KK s (2 * p + 1) e (by omega)
        have s2 := sv_sign KK t (2 * q + 1) f (by omega)
        rw [h] at s1
        cases s <;> cases t
        · rfl
        · have := s1.2 rfl; have := s2.1 rfl; omega
        · have := s1.1 rfl; have := s2.2 rfl; omega
        · rfl
      have key : ∀ (p q a b : Nat), (2 * q + 1) * 2 ^ b = (2 * p + 1) * 2 ^ a → a ≤ b := by
        intro p q a b hh
        refine Nat.le_of_not_lt fun hlt => ?_
        obtain ⟨d, rfl⟩ : ∃ d, a = b + (d + 1) := ⟨a - b - 1, by omega⟩
        rw [Nat.pow_add, ← Nat.mul_assoc, Nat.mul_right_comm] at hh
        have h1 := Nat.eq_of_mul_eq_mul_right (Nat.two_pow_pos b) hh
        rw [Nat.pow_succ, ← Nat.mul_assoc] at h1
        omega
      have k1 := key _ _ _ _ a1
      have k2 := key _ _ _ _ a1.symm
      have hab : (e + KK).toNat = (f + KK).toNat := Nat.le_antisymm k1 k2
      rw [hab] at a1
      have := Nat.eq_of_mul_eq_mul_right (Nat.two_pow_pos _) a1
      exact ⟨hs, this.symm, by omega⟩

/-- sum, in every grown world alike -/
theorem sum29u (s t : Bool) (ad1 ad2 : Option Addr) (n1 n2 c1 c2 x y : Nat) (e f : Int) (w : World) (hx : Lim w ad1 n1 c1 18446744073709551616 x) (hy : Lim w ad2 n2 c2 18446744073709551616 y) (b1 : n1 ≤ 4096) (b2 : n2 ≤ 4096) (e1 : -1048576 ≤ e) (e2 : e ≤ 1048576) (f1 : -1048576 ≤ f) (f2 : f ≤ 1048576) (hef : 0 < x → 0 < y → ¬ 262144 < max e f - min e f) :
    ∃ neg m g, (∀ K, 0 ≤ e + K → 0 ≤ f + K → 0 ≤ g + K ∧ sv K neg m g = sv K s x e + sv K t y f) ∧ -1048576 ≤ g ∧ g ≤ 1048576 ∧
      ∀ w1, Gr w w1 → Calls Tryz.prog 40 #[.agg #[.bool s, .slice ad1 n1 c1, .int .i64 e], .agg #[.bool t, .slice ad2 n2 c2, .int .i64 f]] w1 fun r w' => ∃ ad n cap, r = .returned (.tuple #[.agg #[.bool neg, .slice ad n cap, .int .i64 g], .int .i64 0]) ∧ n ≤ 1099511627776 ∧ Lim w' ad n cap 18446744073709551616 m ∧ Gr w1 w' := by
  by_cases x0 : x = 0
  · subst x0
    have hn := lim_zero hx
    subst hn
    refine ⟨t, y, f, fun K _ h => ⟨h, by rw [sv_zero]; omega⟩, f1, f2, fun w1 gr => (sum_z1 s t ad1 ad2 n2 c1 c2 y e f w1 (hy.gr gr)).mono ?_⟩
    rintro r w' ⟨rfl, h1, h2⟩
    exact ⟨_, _, _, rfl, by omega, h1, h2⟩
  obtain ⟨k1, rfl⟩ := lim_pos hx (by omega)
  by_cases y0 : y = 0
  · subst y0
    have hn := lim_zero hy
    subst hn
    refine ⟨s, x, e, fun K h _ => ⟨h, by rw [sv_zero]; omega⟩, e1, e2, fun w1 gr => (sum_z2 s t ad1 ad2 k1 c1 c2 x e f w1 (hx.gr gr)).mono ?_⟩
    rintro r w' ⟨rfl, h1, h2⟩
    exact ⟨_, _, _, rfl, by omega, h1, h2⟩
  obtain ⟨k2, rfl⟩ := lim_pos hy (by omega)
  have hef := hef (by omega) (by omega)
  have hde : e - min e f = (((e - min e f).toNat : Nat) : Int) := by omega
  have hdf : f - min e f = (((f - min e f).toNat : Nat) : Int) := by omega
  by_cases hst : s = t
  · subst hst
    refine ⟨s, _, min e f, ?_, by omega, by omega, fun w1 gr => sum_same s ad1 ad2 k1 k2 c1 c2 x y _ _ e f w1 (hx.gr gr) (hy.gr gr) (by omega) (by omega) e1 e2 f1 f2 hef hde hdf⟩
    intro K hK1 hK2
    by_cases h : e ≤ f
    · rw [show min e f = e by omega, show (e - e).toNat = 0 by omega, Nat.pow_zero, Nat.mul_one]
      exact ⟨hK1, plus_same h hK1⟩
    · rw [show min e f = f by omega, show (f - f).toNat = 0 by omega, Nat.pow_zero, Nat.mul_one, Nat.add_comm]
      exact ⟨hK2, by rw [plus_same (by omega) hK2]; omega⟩
  · have hst' : (s == t) = false := by simp [hst]
    by_cases hc : x * 2 ^ (e - min e f).toNat < y * 2 ^ (f - min e f).toNat
    · refine ⟨t, _, min e f, ?_, by omega, by omega, fun w1 gr => sum_less s t hst' ad1 ad2 k1 k2 c1 c2 x y _ _ e f w1 (hx.gr gr) (hy.gr gr) (by omega) (by omega) e1 e2 f1 f2 hef hde hdf hc⟩
      intro K hK1 hK2
      by_cases h : e ≤ f
      · rw [show min e f = e by omega, show (e - e).toNat = 0 by omega, Nat.pow_zero, Nat.mul_one] at hc ⊢
        exact ⟨hK1, plus_second h hK1 hst (Nat.le_of_lt hc)⟩
      · rw [show min e f = f by omega, show (f - f).toNat = 0 by omega, Nat.pow_zero, Nat.mul_one] at hc ⊢
        exact ⟨hK2, by rw [plus_first (by omega) hK2 (Ne.symm hst) (Nat.le_of_lt hc)]; omega⟩
    · refine ⟨s, _, min e f, ?_, by omega, by omega, fun w1 gr => sum_more s t hst' ad1 ad2 k1 k2 c1 c2 x y _ _ e f w1 (hx.gr gr) (hy.gr gr) (by omega) (by omega) e1 e2 f1 f2 hef hde hdf hc⟩
      intro K hK1 hK2
      by_cases h : e ≤ f
      · rw [show min e f = e by omega, show (e - e).toNat = 0 by omega, Nat.pow_zero, Nat.mul_one] at hc ⊢
        exact ⟨hK1, plus_first h hK1 hst (Nat.le_of_not_lt hc)⟩
      · rw [show min e f = f by omega, show (f - f).toNat = 0 by omega, Nat.pow_zero, Nat.mul_one] at hc ⊢
        exact ⟨hK2, by rw [plus_second (by omega) hK2 (Ne.symm hst) (Nat.le_of_not_lt hc)]; omega⟩
theorem near_exp {s t : Bool} {x y lo k : Nat} {e f U V : Int} (hx : (x = 0 ∧ s = false ∧ e = 0) ∨ (∃ q, x = 2 * q + 1 ∧ -1048576 ≤ e ∧ e ≤ 1048576)) (hy : (y = 0 ∧ t = false ∧ f = 0) ∨ (∃ q, y = 2 * q + 1 ∧ -1048576 ≤ f ∧ f ≤ 1048576)) (hU : sv KK s x e = U) (hV : sv KK t y f = V) (gU : Gd lo k U) (gV : Gd lo k V) (hlo : lo ≤ 100000) (hk : k ≤ 200000) : 0 < x → 0 < y → ¬ 262144 < max e f - min e f := by
  have := KK_eq
  intro h1 h2
  rcases hx with ⟨rfl, _⟩ | ⟨p, rfl, e1, e2⟩
  · omega
  rcases hy with ⟨rfl, _⟩ | ⟨q, rfl, f1, f2⟩
  · omega
  have a := gd_exp hU gU (by omega) hlo
  have b := gd_exp hV gV (by omega) hlo
  omega
/-- Add, within the limits -/
theorem addG (s t : Bool) (ad1 ad2 : Option Addr) (n1 n2 c1 c2 : Nat) (e f U V : Int) (w : World) (lo k : Nat) (hx : DyV w s ad1 n1 c1 e U) (hy : DyV w t ad2 n2 c2 f V) (hT : TabAt 1 Lib.deBruijn64tab w) (gU : Gd lo k U) (gV : Gd lo k V) (hlo : lo ≤ 100000) (hk : k < 200000) :
    Calls Tryz.prog 9 #[.agg #[.bool s, .slice ad1 n1 c1, .int .i64 e], .agg #[.bool t, .slice ad2 n2 c2, .int .i64 f]] w fun r w' => ∃ s' ad n cap e', r = .returned (.tuple #[.agg #[.bool s', .slice ad n cap, .int .i64 e'], .int .i64 0]) ∧ DyV w' s' ad n cap e' (U + V) ∧ Gr w w' := by
  have hkk := KK_eq
  obtain ⟨x, dx, hU⟩ := hx
  obtain ⟨y, dy, hV⟩ := hy
  obtain ⟨neg, m, g, hs, g1, g2, C⟩ := sum29u s t ad1 ad2 n1 n2 c1 c2 x y e f w dx.lim dy.lim dx.le dy.le dx.low dx.high dy.low dy.high (near_exp dx.right dy.right hU hV gU gV hlo (by omega))
  obtain ⟨h0, hw⟩ := hs KK (by have := dx.low; omega) (by have := dy.low; omega)
  rw [hU, hV] at hw
  refine (told9 s t neg ad1 ad2 n1 n2 c1 c2 m e f g w hT (by omega) (by omega) dx.r26 dy.r26 C).mono ?_
  rintro r w' ⟨h1, h2⟩
  obtain ⟨s', ad, n, cap, e', h3, h4⟩ := h1.dyv hw (gU.add gV) h0 hlo (by omega)
  exact ⟨s', ad, n, cap, e', h3, h4, h2⟩
/-- Sub, within the limits -/
theorem subG (s t : Bool) (ad1 ad2 : Option Addr) (n1 n2 c1 c2 : Nat) (e f U V : Int) (w : World) (lo k : Nat) (hx : DyV w s ad1 n1 c1 e U) (hy : DyV w t ad2 n2 c2 f V) (hT : TabAt 1 Lib.deBruijn64tab w) (gU : Gd lo k U) (gV : Gd lo k V) (hlo : lo ≤ 100000) (hk : k < 200000) :
    Calls Tryz.prog 10 #[.agg #[.bool s, .slice ad1 n1 c1, .int .i64 e], .agg #[.bool t, .slice ad2 n2 c2, .int .i64 f]] w fun r w' => ∃ s' ad n cap e', r = .returned (.tuple #[.agg #[.bool s', .slice ad n cap, .int .i64 e'], .int .i64 0]) ∧ DyV w' s' ad n cap e' (U - V) ∧ Gr w w' := by
  have hkk := KK_eq
  obtain ⟨x, dx, hU⟩ := hx
  obtain ⟨y, dy, hV⟩ := hy
  obtain ⟨neg, m, g, hs, g1, g2, C⟩ := sum29u s (!t) ad1 ad2 n1 n2 c1 c2 x y e f w dx.lim dy.lim dx.le dy.le dx.low dx.high dy.low dy.high (near_exp dx.right dy.right hU hV gU gV hlo (by omega))
  obtain ⟨h0, hw⟩ := hs KK (by have := dx.low; omega) (by have := dy.low; omega)
  rw [sv_neg, hU, hV, ← Int.sub_eq_add_neg] at hw
  refine (told11 s t neg ad1 ad2 n1 n2 c1 c2 m e f g w hT (by omega) (by omega) dx.r26 dy.r26 C).mono ?_
  rintro r w' ⟨h1, h2⟩
  obtain ⟨s', ad, n, cap, e', h3, h4⟩ := h1.dyv hw (gU.sub gV) h0 hlo (by omega)
  exact ⟨s', ad, n, cap, e', h3, h4, h2⟩
/-- Neg, within the limits -/
theorem negG (s : Bool) (ad1 : Option Addr) (n1 c1 : Nat) (e U : Int) (w : World) (lo k : Nat) (hx : DyV w s ad1 n1 c1 e U) (hT : TabAt 1 Lib.deBruijn64tab w) (gU : Gd lo k U) (hlo : lo ≤ 100000) (hk : k < 200000) :
    Calls Tryz.prog 12 #[.agg #[.bool s, .slice ad1 n1 c1, .int .i64 e]] w fun r w' => ∃ s' ad n cap e', r = .returned (.tuple #[.agg #[.bool s', .slice ad n cap, .int .i64 e'], .int .i64 0]) ∧ DyV w' s' ad n cap e' (-U) ∧ Gr w w' := by
  have hkk := KK_eq
  obtain ⟨x, dx, hU⟩ := hx
  obtain ⟨xs, h1, h2, h3⟩ := dx.rightD
  have := dx.le
  have := dx.low
  have := dx.high
  refine (neg14 s ad1 n1 c1 x e xs w h1 h2.2.1 h2.1 (by omega) hT (by omega) (by omega) h3).mono ?_
  rintro r w' ⟨h4, h5⟩
  obtain ⟨s', ad, n, cap, e', h6, h7⟩ := h4.dyv (by rw [sv_neg, hU]) gU.neg (by omega) hlo (by omega)
  exact ⟨s', ad, n, cap, e', h6, h7, h5⟩
end Go.Proofs.YthilajhciifhaaaGreatDoor
namespace Go.Proofs.YthilajhciifhaaaGreatDoor
open Go.RowKit
set_option linter.unusedVariables false

end Go.Proofs.YthilajhciifhaaaGreatDoor
namespace Go.Proofs.YthilajhciifhaaaGreatDoor
open Go.RowKit
set_option linter.unusedVariables false

theorem cmpI_sg (a b : Int) : cmpI a b = sg (a - b) := by
  rcases Int.lt_trichotomy a b with h | h | h
  · rw [cmpI_lt h, sg_neg (by omega)]
  · subst h; rw [cmpI_eq rfl, Int.sub_self, sg_zero]
  · rw [cmpI_gt h, sg_pos (by omega)]
theorem two_blocks (w : World) (a0 a1 a2 b0 b1 b2 : Value) (W0 : World) (h : W0 = (w.alloc (.cells #[a0, a1, a2] 24)).alloc (.cells #[b0, b1, b2] 24)) :
    (W0.cell? ⟨w.heap.size, 0, none⟩ = some a0 ∧ W0.cell? ⟨w.heap.size, 1, none⟩ = some a1 ∧ W0.cell? ⟨w.heap.size, 2, none⟩ = some a2 ∧ W0.cell? ⟨w.heap.size + 1, 0, none⟩ = some b0 ∧ W0.cell? ⟨w.heap.size + 1, 1, none⟩ = some b1 ∧ W0.cell? ⟨w.heap.size + 1, 2, none⟩ = some b2) ∧ Gr w W0 := by
  have h0 : W0.heap[w.heap.size]? = some (.cells #[a0, a1, a2] 24) := by
    rw [h]
    show ((w.heap.push _).push _)[w.heap.size]? = _
    simp only [Array.getElem?_push, Array.size_push]
    rw [if_neg (by omega), if_pos trivial]
  have h1 : W0.heap[w.heap.size + 1]? = some (.cells #[b0, b1, b2] 24) := by
    rw [h]
    show ((w.heap.push _).push _)[w.heap.size + 1]? = _
    simp only [Array.getElem?_push, Array.size_push]
    rw [if_pos trivial]
  exact ⟨⟨by simp [World.cell?, h0], by simp [World.cell?, h0], by simp [World.cell?, h0], by simp [World.cell?, h1], by simp [World.cell?, h1], by simp [World.cell?, h1]⟩, h ▸ ((Gr.refl w).alloc _).alloc _⟩
theorem gr2 {w : World} (o1 o2 : Obj) : Gr w ((w.alloc o1).alloc o2) := ((Gr.refl w).alloc o1).alloc o2

set_option maxHeartbeats 1600000 in
theorem sizes_z1 (s t : Bool) (ad1 ad2 : Option Addr) (n2 c1 c2 : Nat) (e f : Int) (w : World) :
    Calls Tryz.prog 55 #[.agg #[.bool s, .slice ad1 0 c1, .int .i64 e], .agg #[.bool t, .slice ad2 n2 c2, .int .i64 f]] w fun r w' => r = .returned (.int .i64 (cmpI 0 (n2 : Int))) ∧ Gr w w' := by
  go_enter Tryz.func55, Tryz.ntmps55
  go_wp2_with (go_at_call 95; refine (cmpI58 _ _ _).mono ?_; rintro e w' ⟨rfl, rfl⟩)
  go_ret
  exact ⟨rfl, gr2 _ _⟩
set_option maxHeartbeats 1600000 in
theorem sizes_z2 (s t : Bool) (ad1 ad2 : Option Addr) (n1 c1 c2 : Nat) (e f : Int) (w : World) :
    Calls Tryz.prog 55 #[.agg #[.bool s, .slice ad1 (n1 + 1) c1, .int .i64 e], .agg #[.bool t, .slice ad2 0 c2, .int .i64 f]] w fun r w' => r = .returned (.int .i64 (cmpI ((n1 : Int) + 1) 0)) ∧ Gr w w' := by
  go_enter Tryz.func55, Tryz.ntmps55
  go_wp2_with (go_at_call 95; refine (cmpI58 _ _ _).mono ?_; rintro e w' ⟨rfl, rfl⟩)
  go_ret
  exact ⟨rfl, gr2 _ _⟩

set_option maxHeartbeats 1600000 in
theorem sizes_nz (s t : Bool) (ad1 ad2 : Option Addr) (n1 n2 c1 c2 x y : Nat) (e f : Int) (w : World) (hx : Lim w ad1 (n1 + 1) c1 18446744073709551616 x) (hy : Lim w ad2 (n2 + 1) c2 18446744073709551616 y) (x0 : 0 < x) (y0 : 0 < y) (b1 : n1 + 1 ≤ 4096) (b2 : n2 + 1 ≤ 4096) (e1 : -1048576 ≤ e) (e2 : e ≤ 1048576) (f1 : -1048576 ≤ f) (f2 : f ≤ 1048576) :
    Calls Tryz.prog 55 #[.agg #[.bool s, .slice ad1 (n1 + 1) c1, .int .i64 e], .agg #[.bool t, .slice ad2 (n2 + 1) c2, .int .i64 f]] w fun r w' => r = .returned (.int .i64 (sg (sv KK false x e - sv KK false y f))) ∧ Gr w w' := by
  have hkk := KK_eq
  have hb1 : bl x ≤ 262144 := by
    obtain ⟨xs, r1, d1⟩ := hx
    have := bl_len d1
    rw [r1.len] at this
    omega
  have hb2 : bl y ≤ 262144 := by
    obtain ⟨xs, r1, d1⟩ := hy
    have := bl_len d1
    rw [r1.len] at this
    omega
  have H1 : Hid (∀ w1, Gr w w1 → Calls Tryz.prog 49 #[.slice ad1 (n1 + 1) c1] w1 fun r w' => r = .returned (.int .i64 (bl x : Int)) ∧ Gr w1 w') := fun w1 g => bitLength40 ad1 (n1 + 1) c1 x w1 (hx.gr g) x0 (by omega)
  have H2 : Hid (∀ w1, Gr w w1 → Calls Tryz.prog 49 #[.slice ad2 (n2 + 1) c2] w1 fun r w' => r = .returned (.int .i64 (bl y : Int)) ∧ Gr w1 w') := fun w1 g => bitLength40 ad2 (n2 + 1) c2 y w1 (hy.gr g) y0 (by omega)
  have SG : Hid (cmpI ((bl x : Int) + e) ((bl y : Int) + f) = sg (sv KK false x e - sv KK false y f) ∨ (bl x : Int) + e = (bl y : Int) + f) := by
    show _ ∨ _
    rcases Int.lt_trichotomy ((bl x : Int) + e) ((bl y : Int) + f) with h | h | h
    · left; rw [cmpI_lt h, sg_top x0 y0 (by omega) (by omega) (by omega)]; rfl
    · right; exact h
    · left; rw [cmpI_gt h, sg_top' x0 y0 (by omega) (by omega) (by omega)]; rfl
  have SE : Hid (cmpI ((x * 2 ^ (e - min e f).toNat : Nat) : Int) ((y * 2 ^ (f - min e f).toNat : Nat) : Int) = sg (sv KK false x e - sv KK false y f)) := by
    show _ = _
    rw [cmpI_sg]
    have d1 := sv_down KK false x e (min e f) (by omega) (by omega)
    have d2 := sv_down KK false y f (min e f) (by omega) (by omega)
    rw [← d1, ← d2]
    generalize x * 2 ^ (e - min e f).toNat = a
    generalize y * 2 ^ (f - min e f).toNat = b
    have hp := Nat.two_pow_pos (min e f + KK).toNat
    unfold sv
    simp only [Bool.false_eq_true, if_false, Int.natCast_mul]
    generalize 2 ^ (min e f + KK).toNat = p at hp
    rw [← Int.sub_mul]
    rcases Int.lt_trichotomy ((a : Int) - b) 0 with h | h | h
    · rw [sg_neg h, sg_neg (Int.mul_neg_of_neg_of_pos h (by omega))]
    · rw [h, Int.zero_mul]
    · rw [sg_pos h, sg_pos (Int.mul_pos h (by omega))]
  have hde : e - min e f = (((e - min e f).toNat : Nat) : Int) := by omega
  have hdf : f - min e f = (((f - min e f).toNat : Nat) : Int) := by omega
  have H3 : Hid (∀ w1, Gr w w1 → Calls Tryz.prog 82 #[.slice ad1 (n1 + 1) c1, .int .i64 (IntKind.i64.wrap (e - min e f))] w1 fun r w' => ∃ ad' n' cap', r = .returned (.slice ad' n' cap') ∧ n' ≤ 2097152 ∧ Lim w' ad' n' cap' 18446744073709551616 (x * 2 ^ (e - min e f).toNat) ∧ Gr w1 w') := fun w1 g => by
    rw [show IntKind.i64.wrap (e - min e f) = (((e - min e f).toNat : Nat) : Int) from (IntWalk.i64_in _ ⟨by omega, by omega⟩).trans hde]
    refine (shiftUp53 ad1 (n1 + 1) c1 x _ w1 (hx.gr g) (by omega) (by omega)).mono ?_
    rintro r w' ⟨a, b, c, h1, h2, h3, h4⟩
    exact ⟨a, b, c, h1, by omega, h3, h4⟩
  have H4 : Hid (∀ w1, Gr w w1 → Calls Tryz.prog 82 #[.slice ad2 (n2 + 1) c2, .int .i64 (IntKind.i64.wrap (f - min e f))] w1 fun r w' => ∃ ad' n' cap', r = .returned (.slice ad' n' cap') ∧ n' ≤ 2097152 ∧ Lim w' ad' n' cap' 18446744073709551616 (y * 2 ^ (f - min e f).toNat) ∧ Gr w1 w') := fun w1 g => by
    rw [show IntKind.i64.wrap (f - min e f) = (((f - min e f).toNat : Nat) : Int) from (IntWalk.i64_in _ ⟨by omega, by omega⟩).trans hdf]
    refine (shiftUp53 ad2 (n2 + 1) c2 y _ w1 (hy.gr g) (by omega) (by omega)).mono ?_
    rintro r w' ⟨a, b, c, h1, h2, h3, h4⟩
    exact ⟨a, b, c, h1, by omega, h3, h4⟩
  have H5 : Hid (∀ a3 m3 k3 a4 m4 k4 w1, m3 ≤ 2097152 → m4 ≤ 2097152 → Lim w1 a3 m3 k3 18446744073709551616 (x * 2 ^ (e - min e f).toNat) → Lim w1 a4 m4 k4 18446744073709551616 (y * 2 ^ (f - min e f).toNat) → Calls Tryz.prog 83 #[.slice a3 m3 k3, .slice a4 m4 k4] w1 fun r w' => r = .returned (.int .i64 (sg (sv KK false x e - sv KK false y f))) ∧ Gr w1 w') := fun a3 m3 k3 a4 m4 k4 w1 h1 h2 h3 h4 => by
    rw [← SE.out]
    exact compare54 a3 a4 m3 m4 k3 k4 _ _ w1 h3 h4 (by omega) (by omega)
  clear hx hy hde hdf SE x0 y0
  generalize sg (sv KK false x e - sv KK false y f) = RES at *
  have z1 : ((n1 : Int) + 1 == 0) = false := by simp; omega
  have z2 : ((n2 : Int) + 1 == 0) = false := by simp; omega
  generalize bl x = bx at *
  generalize bl y = by' at *
  go_enter Tryz.func55, Tryz.ntmps55
  go_wp2
  obtain ⟨W0, hW0⟩ : ∃ W0, W0 = (w.alloc (.cells #[.bool s, .slice ad1 (n1 + 1) c1, .int .i64 e] 24)).alloc (.cells #[.bool t, .slice ad2 (n2 + 1) c2, .int .i64 f] 24) := ⟨_, rfl⟩
  rw [← hW0]
  have hS := two_blocks w _ _ _ _ _ _ W0 hW0
  have hS0 := keep6 ((Gr.refl W0).drew) hS
  clear hW0
  go_region_held3 (fun w' => (w'.cell? ⟨w.heap.size, 0, none⟩ = some (.bool s) ∧ w'.cell? ⟨w.heap.size, 1, none⟩ = some (.slice ad1 (n1 + 1) c1) ∧ w'.cell? ⟨w.heap.size, 2, none⟩ = some (.int .i64 e) ∧ w'.cell? ⟨w.heap.size + 1, 0, none⟩ = some (.bool t) ∧ w'.cell? ⟨w.heap.size + 1, 1, none⟩ = some (.slice ad2 (n2 + 1) c2) ∧ w'.cell? ⟨w.heap.size + 1, 2, none⟩ = some (.int .i64 f)) ∧ Gr w w') (first | (with_reducible assumption) | (apply keep6; (with_reducible assumption); (with_reducible assumption))) (first | (go_at_call 49; (with_reducible refine (H1.out _ ?gg).mono ?_); (case gg => exact And.right ‹_ ∧ Gr w _›); rintro r w1 ⟨rfl, g3⟩) | (go_at_call 49; (with_reducible refine (H2.out _ ?gg).mono ?_); (case gg => exact And.right ‹_ ∧ Gr w _›); rintro r w2 ⟨rfl, g4⟩))
  rw [show IntKind.i64.wrap ((bx : Int) + e) = (bx : Int) + e from IntWalk.i64_in _ ⟨by omega, by omega⟩, show IntKind.i64.wrap ((by' : Int) + f) = (by' : Int) + f from IntWalk.i64_in _ ⟨by omega, by omega⟩]
  have hS2 := keep6 g4 (keep6 g3 hS0)
  clear hS hS0 g3 g4 H1 H2
  by_cases hm : (bx : Int) + e = (by' : Int) + f
  · have hm' : ((bx : Int) + e != (by' : Int) + f) = false := by simp [hm]
    clear hm SG
    have q2 := hS2.1.2.2.1
    have q5 := hS2.1.2.2.2.2.2
    have l1 : -1048576 ≤ min e f := by omega
    have l2 : min e f ≤ 1048576 := by omega
    have l3 : min e f ≤ e := by omega
    have l4 : min e f ≤ f := by omega
    go_wp2
    have hS3 := keep6 ((Gr.refl w2).drew) hS2
    clear q2 q5
    generalize min e f = L at *
    go_region_held3 (fun w' => (w'.cell? ⟨w.heap.size, 0, none⟩ = some (.bool s) ∧ w'.cell? ⟨w.heap.size, 1, none⟩ = some (.slice ad1 (n1 + 1) c1) ∧ w'.cell? ⟨w.heap.size, 2, none⟩ = some (.int .i64 e) ∧ w'.cell? ⟨w.heap.size + 1, 0, none⟩ = some (.bool t) ∧ w'.cell? ⟨w.heap.size + 1, 1, none⟩ = some (.slice ad2 (n2 + 1) c2) ∧ w'.cell? ⟨w.heap.size + 1, 2, none⟩ = some (.int .i64 f)) ∧ Gr w w') (first | (with_reducible assumption) | (apply keep6; (with_reducible assumption); (with_reducible assumption))) (first | (go_at_call 82; (with_reducible refine (H3.out _ ?gg).mono ?_); (case gg => exact And.right ‹_ ∧ Gr w _›); rintro r w3 ⟨a3, m3, k3, rfl, hm3, hl3, g5⟩) | (go_at_call 82; (with_reducible refine (H4.out _ ?gg).mono ?_); (case gg => exact And.right ‹_ ∧ Gr w _›); rintro r w4 ⟨a4, m4, k4, rfl, hm4, hl4, g6⟩) | (go_at_call 83; (with_reducible refine (H5.out _ _ _ _ _ _ _ hm3 hm4 (hl3.gr g6) hl4).mono ?_); rintro r w5 ⟨rfl, g7⟩))
    have hS6 := keep6 g7 (keep6 g6 (keep6 g5 hS3))
    go_wp2
    go_ret
    exact ⟨rfl, hS6.2⟩
  · have hm' : ((bx : Int) + e != (by' : Int) + f) = true := by simp [hm]
    have SG' : Hid (cmpI ((bx : Int) + e) ((by' : Int) + f) = RES) := by
      rcases SG.out with h | h
      · exact h
      · exact absurd h hm
    clear hm SG
    go_wp2_with (go_at_call 95; refine (cmpI58 _ _ _).mono ?_; rintro e w' ⟨rfl, rfl⟩)
    go_ret
    exact ⟨ret_i64 SG'.out, hS2.2⟩
theorem compareSizes34 (s t : Bool) (ad1 ad2 : Option Addr) (n1 n2 c1 c2 x y : Nat) (e f : Int) (w : World) (dx : DyAt w s ad1 n1 c1 e x) (dy : DyAt w t ad2 n2 c2 f y) :
    Calls Tryz.prog 55 #[.agg #[.bool s, .slice ad1 n1 c1, .int .i64 e], .agg #[.bool t, .slice ad2 n2 c2, .int .i64 f]] w fun r w' => r = .returned (.int .i64 (sg (sv KK false x e - sv KK false y f))) ∧ Gr w w' := by
  by_cases x0 : x = 0
  · subst x0
    have hn := lim_zero dx.lim
    subst hn
    have : cmpI 0 (n2 : Int) = sg (sv KK false 0 e - sv KK false y f) := by
      rw [sv_zero]
      by_cases y0 : y = 0
      · subst y0
        have hn := lim_zero dy.lim
        subst hn
        rw [sv_zero]; rfl
      · obtain ⟨k, rfl⟩ := lim_pos dy.lim (by omega)
        have := (sv_sign KK false y f (by omega)).2 rfl
        rw [cmpI_lt (by omega), sg_neg (by omega)]
    rw [← this]
    exact sizes_z1 s t ad1 ad2 n2 c1 c2 e f w
  · obtain ⟨k1, rfl⟩ := lim_pos dx.lim (by omega)
    by_cases y0 : y = 0
    · subst y0
      have hn := lim_zero dy.lim
      subst hn
      have : cmpI ((k1 : Int) + 1) 0 = sg (sv KK false x e - sv KK false 0 f) := by
        rw [sv_zero]
        have := (sv_sign KK false x e (by omega)).2 rfl
        rw [cmpI_gt (by omega), sg_pos (by omega)]
      rw [← this]
      exact sizes_z2 s t ad1 ad2 k1 c1 c2 e f w
    · obtain ⟨k2, rfl⟩ := lim_pos dy.lim (by omega)
      exact sizes_nz s t ad1 ad2 k1 k2 c1 c2 x y e f w dx.lim dy.lim (by omega) (by omega) dx.le dy.le dx.low dx.high dy.low dy.high
end Go.Proofs.YthilajhciifhaaaGreatDoor
namespace Go.Proofs.YthilajhciifhaaaGreatDoor
open Go.RowKit
set_option linter.unusedVariables false
/-- the reckoner: no error is noted in it -/
def Rk (w : World) (B : Nat) : Prop := w.heap[B]? = some (.cells #[.int .i64 0] 110)
theorem Rk.gr {w w' : World} {B : Nat} (h : Rk w B) (g : Gr w w') : Rk w' B := g.keepH h
theorem Rk.cell {w : World} {B : Nat} (h : Rk w B) : w.cell? ⟨B, 0, none⟩ = some (.int .i64 0) := by unfold Rk at h; simp [World.cell?, h]
theorem Rk.free {w : World} {B : Nat} (h : Rk w B) : w.frozen? ⟨B, 0, none⟩ = false := by unfold Rk at h; simp [World.frozen?, h]
theorem modify_same {α : Type} (a : Array α) (i : Nat) (f : α → α) (h : ∀ x, a[i]? = some x → f x = x) : a.modify i f = a := by
  apply Array.ext'
  rw [Array.toList_modify]
  apply List.ext_getElem?
  intro j
  rw [List.getElem?_modify]
  by_cases hj : i = j
  · subst hj
    cases hx : a.toList[i]? with
    | none => rfl
    | some x =>
      show some (if i = i then f x else x) = some x
      rw [if_pos rfl, h x (by rw [← Array.getElem?_toList]; exact hx)]
  · cases hx : a.toList[j]? with
    | none => rfl
    | some x => simp [hj]
theorem Rk.same {w : World} {B : Nat} (h : Rk w B) : w.setCell ⟨B, 0, none⟩ (.int .i64 0) = w := by
  unfold Rk at h
  unfold World.setCell
  rw [modify_same _ _ _ (fun x hx => by rw [h] at hx; cases hx; rfl)]
theorem note (B : Nat) (w : World) (h : Rk w B) : Calls Tryz.prog 126 #[.pointer (some ⟨B, 0, none⟩), .int .i64 0] w fun r w' => r = .returned (.tuple #[]) ∧ w' = w := by
  have c0 := h.cell
  have f0 := h.free
  go_enter Tryz.func126, Tryz.ntmps126
  go_wp2
  exact bodyPost_end (results_none (by rfl) _ _ _) rfl ⟨rfl, h.same⟩
theorem wrap_i64_small (x : Int) (h1 : 0 ≤ x) (h2 : x < 9223372036854775808) : IntKind.i64.wrap x = x := by rw [IntKind.wrap_i64]; omega
theorem and_i64 (q : Int) (b : Nat) (hb : b < 4294967296) : bits .and .i64 q (b : Int) = (((q % 18446744073709551616).toNat &&& b : Nat) : Int) := by
  have hx : (q % 18446744073709551616).toNat &&& b ≤ b := Nat.and_le_right
  have h1 : (BitVec.ofInt 64 q).toNat = (q % 18446744073709551616).toNat := by
    rw [BitVec.toNat_ofInt]; rfl
  have h2 : (BitVec.ofInt 64 (b : Int)).toNat = b := by
    rw [BitVec.ofInt_natCast, BitVec.toNat_ofNat]; exact Nat.mod_eq_of_lt (by omega)
  show IntKind.i64.wrap ((BitVec.ofInt 64 q &&& BitVec.ofInt 64 (b : Int)).toNat : Int) = _
  rw [BitVec.toNat_and, h1, h2, wrap_i64_small _ (by omega) (by omega)]
theorem and_three (q : Int) : bits .and .i64 q 3 = q % 4 := by
  rw [show (3 : Int) = ((3 : Nat) : Int) from rfl, and_i64 q 3 (by omega)]
  rw [show (3 : Nat) = 2 ^ 2 - 1 from rfl, Nat.and_two_pow_sub_one_eq_mod]
  omega
theorem and_two (q : Int) : bits .and .i64 q 2 = if q % 4 = 2 ∨ q % 4 = 3 then 2 else 0 := by
  rw [show (2 : Int) = ((2 : Nat) : Int) from rfl, and_i64 q 2 (by omega)]
  rw [show (q % 18446744073709551616).toNat &&& 2 = ((q % 18446744073709551616).toNat &&& (2 ^ 2 - 1)) &&& 2 by rw [Nat.and_assoc]; rfl, Nat.and_two_pow_sub_one_eq_mod]
  have h : (q % 18446744073709551616).toNat % 2 ^ 2 = (q % 4).toNat := by omega
  rw [h]
  have h0 : q % 4 = 0 ∨ q % 4 = 1 ∨ q % 4 = 2 ∨ q % 4 = 3 := by omega
  rcases h0 with h | h | h | h <;> rw [h] <;> rfl
theorem and_turn (q : Int) : bits .and .i64 q 16383 = q % 16384 := by
  rw [show (16383 : Int) = ((16383 : Nat) : Int) from rfl, and_i64 q 16383 (by omega)]
  rw [show (16383 : Nat) = 2 ^ 14 - 1 from rfl, Nat.and_two_pow_sub_one_eq_mod]
  omega
/-- is a cosine below 0 in the quarter that begins so many quarters on? -/
def lf (q : Int) : Bool := decide ((q + 1) % 4 = 2 ∨ (q + 1) % 4 = 3)
theorem leftOf (q : Int) (w : World) (h1 : -100000 ≤ q) (h2 : q ≤ 100000) : Calls Tryz.prog 165 #[.int .i64 q] w fun r w' => r = .returned (.bool (lf q)) ∧ w' = w := by
  go_enter Tryz.func165, Tryz.ntmps165
  go_wp2
  go_ret
  refine ⟨?_, rfl⟩
  show Ending.returned (Value.bool _) = _
  rw [and_two]
  unfold lf
  by_cases h : (q + 1) % 4 = 2 ∨ (q + 1) % 4 = 3
  · rw [if_pos h, decide_eq_true h]; rfl
  · rw [if_neg h, decide_eq_false h]; rfl
end Go.Proofs.YthilajhciifhaaaGreatDoor
namespace Go.Proofs.YthilajhciifhaaaGreatDoor
open Go.RowKit
set_option linter.unusedVariables false
/-- an answer: a right dyad of that worth -/
def Dv (w : World) (r : Ending) (V : Int) : Prop := ∃ s ad n cap e, r = .returned (.agg #[.bool s, .slice ad n cap, .int .i64 e]) ∧ DyV w s ad n cap e V
theorem gr2s {w w1 : World} (g : Gr w w1) (v0 v1 v2 : Value) : Gr w (((w1.setCell ⟨w.heap.size + 1, 0, none⟩ v0).setCell ⟨w.heap.size + 1, 1, none⟩ v1).setCell ⟨w.heap.size + 1, 2, none⟩ v2) :=
  ((g.setCell (p := ⟨w.heap.size + 1, 0, none⟩) (Nat.le_succ _) _).setCell (p := ⟨w.heap.size + 1, 1, none⟩) (Nat.le_succ _) _).setCell (p := ⟨w.heap.size + 1, 2, none⟩) (Nat.le_succ _) _
set_option maxRecDepth 10000 in
set_option maxHeartbeats 1600000 in
theorem keep (B : Nat) (s : Bool) (ad : Option Addr) (n cap : Nat) (e : Int) (w : World) (h : Rk w B) :
    Calls Tryz.prog 160 #[.pointer (some ⟨B, 0, none⟩), .agg #[.bool s, .slice ad n cap, .int .i64 e], .int .i64 0] w fun r w' => r = .returned (.agg #[.bool s, .slice ad n cap, .int .i64 e]) ∧ Gr w w' := by
  have TB : Hid _ := two_blocks w (.bool s) (.slice ad n cap) (.int .i64 e) (.bool false) (.slice none 0 0) (.int .i64 0) _ rfl
  have kb0 : Hid _ := second_block w (.cells #[.bool s, .slice ad n cap, .int .i64 e] 24) (.cells #[.bool false, .slice none 0 0, .int .i64 0] 24)
  have N : Hid (∀ w1, Gr w w1 → Calls Tryz.prog 126 #[.pointer (some ⟨B, 0, none⟩), .int .i64 0] w1 fun r w' => r = .returned (.tuple #[]) ∧ w' = w1) := fun w1 g => note B w1 (h.gr g)
  go_enter Tryz.func160, Tryz.ntmps160
  go_wp2_with (first | (go_at_call 126; (with_reducible refine (N.out _ (gr2 _ _)).mono ?_); rintro r w1 ⟨rfl, rfl⟩; have k := TB.out; have k0 := k.1.1; have k1 := k.1.2.1; have k2 := k.1.2.2.1; obtain ⟨t0, t1, t2, u0, u1, u2⟩ := Out3.of kb0.out))
  refine bodyPost_ret (v := .agg #[.bool s, .slice ad n cap, .int .i64 e]) ?_ rfl ⟨rfl, gr2 _ _⟩
  simp [results, Tryz.results160, go_sem]
abbrev Keeps (w : World) (B : Nat) : Prop := ∀ w1 s ad n cap e, Gr w w1 → Calls Tryz.prog 160 #[.pointer (some ⟨B, 0, none⟩), .agg #[.bool s, .slice ad n cap, .int .i64 e], .int .i64 0] w1 fun r w' => r = .returned (.agg #[.bool s, .slice ad n cap, .int .i64 e]) ∧ Gr w1 w'
theorem keeps {w : World} {B : Nat} (h : Rk w B) : Keeps w B := fun w1 s ad n cap e g => keep B s ad n cap e w1 (h.gr g)
set_option maxRecDepth 10000 in
set_option maxHeartbeats 1600000 in
theorem signed0 (B : Nat) (s : Bool) (ad : Option Addr) (n cap : Nat) (e V : Int) (w : World) (h : Rk w B) (d : DyV w s ad n cap e V) :
    Calls Tryz.prog 163 #[.pointer (some ⟨B, 0, none⟩), .agg #[.bool s, .slice ad n cap, .int .i64 e], .bool false] w fun r w' => Dv w' r V ∧ Gr w w' := by
  go_enter Tryz.func163, Tryz.ntmps163
  go_wp2
  refine bodyPost_ret (v := .agg #[.bool s, .slice ad n cap, .int .i64 e]) ?_ rfl ⟨⟨_, _, _, _, _, rfl, d.gr (gr2 _ _)⟩, gr2 _ _⟩
  simp [results, Tryz.results163, go_sem]
set_option maxRecDepth 10000 in
set_option maxHeartbeats 1600000 in
theorem signed1 (B : Nat) (s : Bool) (ad : Option Addr) (n cap : Nat) (e V : Int) (w : World) (h : Rk w B) (d : DyV w s ad n cap e V) (lo k : Nat) (hT : TabAt 1 Lib.deBruijn64tab w) (gV : Gd lo k V) (hlo : lo ≤ 100000) (hk : k < 200000) :
    Calls Tryz.prog 163 #[.pointer (some ⟨B, 0, none⟩), .agg #[.bool s, .slice ad n cap, .int .i64 e], .bool true] w fun r w' => Dv w' r (-V) ∧ Gr w w' := by
  have TB : Hid _ := two_blocks w (.bool s) (.slice ad n cap) (.int .i64 e) (.bool false) (.slice none 0 0) (.int .i64 0) _ rfl
  have kb0 : Hid _ := second_block w (.cells #[.bool s, .slice ad n cap, .int .i64 e] 24) (.cells #[.bool false, .slice none 0 0, .int .i64 0] 24)
  have K : Hid _ := keeps h
  have N : Hid (∀ w1, Gr w w1 → Calls Tryz.prog 12 #[.agg #[.bool s, .slice ad n cap, .int .i64 e]] w1 fun r w' => ∃ s' ad n cap e', r = .returned (.tuple #[.agg #[.bool s', .slice ad n cap, .int .i64 e'], .int .i64 0]) ∧ DyV w' s' ad n cap e' (-V) ∧ Gr w1 w') := fun w1 g => negG s ad n cap e V w1 lo k (d.gr g) (tab_gr hT g) gV hlo hk
  clear h d hT gV
  go_enter Tryz.func163, Tryz.ntmps163
  go_wp2_with (first
    | (go_at_call 12; (with_reducible refine (N.out _ (gr2 _ _)).mono ?_); rintro r w1 ⟨s', ad', n', cap', e', rfl, d1, g1⟩; have kb1 := g1.keepH kb0.out)
    | (go_at_call 160; (with_reducible refine (K.out _ _ _ _ _ _ ((gr2 _ _).trans g1)).mono ?_); rintro r w2 ⟨rfl, g2⟩; have kb2 := g2.keepH kb1; obtain ⟨t0, t1, t2, u0, u1, u2⟩ := Out3.of kb2))
  refine bodyPost_ret (v := .agg #[.bool s', .slice ad' n' cap', .int .i64 e']) ?_ rfl ⟨⟨_, _, _, _, _, rfl, ?_⟩, gr2s (((gr2 _ _).trans g1).trans g2) _ _ _⟩
  · simp [results, Tryz.results163, go_sem, t0, t1, t2]
  · obtain ⟨x, dx, hx⟩ := d1.gr g2
    exact ⟨x, ⟨dx.lim.set3 (dx.lim.apart kb2) _ _ _, dx.le, dx.right⟩, hx⟩
end Go.Proofs.YthilajhciifhaaaGreatDoor
