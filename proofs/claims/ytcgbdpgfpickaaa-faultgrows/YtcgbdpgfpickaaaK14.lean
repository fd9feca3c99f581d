import Derived.Test.YtcgbdpgfpickaaaK13
namespace Go.Proofs.Ytcgbdpgfpickaaa
open Go.RowKit
set_option linter.unusedVariables false

/-! RIGHT DYADS AND THEIR WORTH, in units of 2^-KK -/
def KN : Nat := 4194304
def KK : Int := (KN : Int)
theorem KN_eq : KN = 4194304 := rfl
theorem KK_eq : KK = 4194304 := rfl
structure DyAt (w : World) (s : Bool) (ad : Option Addr) (n cap : Nat) (e : Int) (x : Nat) : Prop where
  lim : Lim w ad n cap 18446744073709551616 x
  le : n ≤ 4096
  right : (x = 0 ∧ s = false ∧ e = 0) ∨ (∃ q, x = 2 * q + 1 ∧ -1048576 ≤ e ∧ e ≤ 1048576)
theorem DyAt.gr {w w' : World} {s : Bool} {ad : Option Addr} {n cap : Nat} {e : Int} {x : Nat} (h : DyAt w s ad n cap e x) (g : Gr w w') : DyAt w' s ad n cap e x := ⟨h.lim.gr g, h.le, h.right⟩
theorem DyAt.low {w : World} {s : Bool} {ad : Option Addr} {n cap : Nat} {e : Int} {x : Nat} (h : DyAt w s ad n cap e x) : -1048576 ≤ e := by
  rcases h.right with ⟨_, _, h⟩ | ⟨_, _, h, _⟩ <;> omega
theorem DyAt.high {w : World} {s : Bool} {ad : Option Addr} {n cap : Nat} {e : Int} {x : Nat} (h : DyAt w s ad n cap e x) : e ≤ 1048576 := by
  rcases h.right with ⟨_, _, h⟩ | ⟨_, _, _, h⟩ <;> omega
theorem DyAt.rightD {w : World} {s : Bool} {ad : Option Addr} {n cap : Nat} {e : Int} {x : Nat} (h : DyAt w s ad n cap e x) : ∃ xs, Row w ad n cap xs ∧ Dg 18446744073709551616 x xs ∧ RightD s xs e := by
  obtain ⟨xs, h1, h2⟩ := h.lim
  refine ⟨xs, h1, h2, ?_⟩
  rcases h.right with ⟨rfl, rfl, rfl⟩ | ⟨q, rfl, e1, e2⟩
  · exact Or.inl ⟨(h2.zero_iff (by omega)).2 rfl, rfl, rfl⟩
  · refine (right_iff h2).2 ⟨?_, e1, e2⟩
    refine Nat.lt_of_lt_of_le h2.upper (Nat.pow_le_pow_right (by omega) ?_)
    rw [h1.len, L4096_eq]; exact h.le
/-- a right dyad of that worth -/
def DyV (w : World) (s : Bool) (ad : Option Addr) (n cap : Nat) (e : Int) (V : Int) : Prop := ∃ x, DyAt w s ad n cap e x ∧ sv KK s x e = V
theorem DyV.gr {w w' : World} {s : Bool} {ad : Option Addr} {n cap : Nat} {e V : Int} (h : DyV w s ad n cap e V) (g : Gr w w') : DyV w' s ad n cap e V := by
  obtain ⟨x, h1, h2⟩ := h
  exact ⟨x, h1.gr g, h2⟩
/-- a whole number of 2^-lo, so many of them that k bits hold it -/
def Gd (lo k : Nat) (V : Int) : Prop := ∃ m : Int, V = m * ((2 ^ (KN - lo) : Nat) : Int) ∧ m.natAbs < 2 ^ k
theorem Gd.add {lo k : Nat} {U V : Int} (h1 : Gd lo k U) (h2 : Gd lo k V) : Gd lo (k + 1) (U + V) := by
  obtain ⟨a, rfl, ha⟩ := h1
  obtain ⟨b, rfl, hb⟩ := h2
  refine ⟨a + b, by rw [Int.add_mul], ?_⟩
  rw [Nat.pow_succ]
  omega
theorem Gd.neg {lo k : Nat} {V : Int} (h : Gd lo k V) : Gd lo k (-V) := by
  obtain ⟨a, rfl, ha⟩ := h
  exact ⟨-a, by rw [Int.neg_mul], by rw [Int.natAbs_neg]; exact ha⟩
theorem Gd.sub {lo k : Nat} {U V : Int} (h1 : Gd lo k U) (h2 : Gd lo k V) : Gd lo (k + 1) (U - V) := by
  rw [Int.sub_eq_add_neg]; exact h1.add h2.neg
theorem Gd.more {lo k l : Nat} {V : Int} (h : Gd lo k V) (hl : k ≤ l) : Gd lo l V := by
  obtain ⟨a, h1, h2⟩ := h
  exact ⟨a, h1, Nat.lt_of_lt_of_le h2 (Nat.pow_le_pow_right (by omega) hl)⟩
theorem odd_core {q a c M k : Nat} (h : (2 * q + 1) * 2 ^ a = M * 2 ^ c) (hM : M < 2 ^ k) : c ≤ a ∧ a < c + k ∧ 2 * q + 1 < 2 ^ k := by
  have hca : c ≤ a := by
    refine Nat.le_of_not_lt fun hlt => ?_
    obtain ⟨d, rfl⟩ : ∃ d, c = a + (d + 1) := ⟨c - a - 1, by omega⟩
    rw [Nat.pow_add, ← Nat.mul_assoc, Nat.mul_right_comm] at h
    have h1 := Nat.eq_of_mul_eq_mul_right (Nat.two_pow_pos a) h
    rw [Nat.pow_succ, ← Nat.mul_assoc] at h1
    omega
  obtain ⟨d, rfl⟩ : ∃ d, a = c + d := ⟨a - c, by omega⟩
  rw [Nat.add_comm c d, Nat.pow_add, ← Nat.mul_assoc] at h
  have h1 := Nat.eq_of_mul_eq_mul_right (Nat.two_pow_pos c) h
  have h2 : 1 * 2 ^ d ≤ (2 * q + 1) * 2 ^ d := Nat.mul_le_mul_right _ (by omega)
  have h3 : (2 * q + 1) * 1 ≤ (2 * q + 1) * 2 ^ d := Nat.mul_le_mul_left _ (Nat.two_pow_pos d)
  refine ⟨hca, ?_, by omega⟩
  have : d < k := (Nat.pow_lt_pow_iff_right (by omega : 1 < 2)).1 (by omega : 2 ^ d < 2 ^ k)
  omega
/-- the right dyad of such a worth is within the limits -/
theorem gd_odd {s : Bool} {t q lo k : Nat} {e V : Int} (hV : sv KK s (2 ^ t * (2 * q + 1)) e = V) (hg : Gd lo k V) (he : 0 ≤ e + KK) (hlo : lo ≤ 100000) : -(lo : Int) ≤ e + t ∧ e + t + lo < k ∧ 2 * q + 1 < 2 ^ k := by
  obtain ⟨m, hm, hk⟩ := hg
  have h1 := sv_abs KK s (2 ^ t * (2 * q + 1)) e
  rw [hV, hm, Int.natAbs_mul, Int.natAbs_natCast] at h1
  have h2 : (2 * q + 1) * 2 ^ (t + (e + KK).toNat) = m.natAbs * 2 ^ (KN - lo) := by
    rw [h1, Nat.pow_add, ← Nat.mul_assoc, Nat.mul_comm (2 * q + 1) (2 ^ t)]
  have h3 := odd_core h2 hk
  have := KK_eq
  have := KN_eq
  omega
theorem gd_fits {s : Bool} {t q lo k : Nat} {e V : Int} (hV : sv KK s (2 ^ t * (2 * q + 1)) e = V) (hg : Gd lo k V) (he : 0 ≤ e + KK) (hlo : lo ≤ 100000) (hk : k ≤ 200000) : Fits (2 * q + 1) (e + t) := by
  have h := gd_odd hV hg he hlo
  refine ⟨Nat.lt_of_lt_of_le h.2.2 ?_, by omega, by omega⟩
  rw [pow64]
  exact Nat.pow_le_pow_right (by omega) (by rw [L4096_eq]; omega)
theorem gd_exp {s : Bool} {q lo k : Nat} {e V : Int} (hV : sv KK s (2 * q + 1) e = V) (hg : Gd lo k V) (he : 0 ≤ e + KK) (hlo : lo ≤ 100000) : -(lo : Int) ≤ e ∧ e + lo < k := by
  have := gd_odd (t := 0) (s := s) (q := q) (e := e) (by rw [Nat.pow_zero, Nat.one_mul]; exact hV) hg he hlo
  simp at this
  omega
/-- what settle tells of a worth within the limits -/
theorem Settled.dyv {w : World} {r : Ending} {s : Bool} {x lo k : Nat} {e V : Int} (h : Settled w r s x e) (hV : sv KK s x e = V) (hg : Gd lo k V) (he : 0 ≤ e + KK) (hlo : lo ≤ 100000) (hk : k ≤ 200000) :
    ∃ s' ad n cap e', r = .returned (.tuple #[.agg #[.bool s', .slice ad n cap, .int .i64 e'], .int .i64 0]) ∧ DyV w s' ad n cap e' V := by
  unfold Settled at h
  rcases h with ⟨rfl, rfl⟩ | ⟨t, q, ad, n, cap, rfl, hf, rfl, hl, hn⟩ | ⟨t, q, rfl, hf, rfl⟩
  · rw [sv_zero] at hV
    exact ⟨false, none, 0, 0, 0, rfl, 0, ⟨⟨[], Row.empty (by omega) (fun _ => rfl), Dg.nil⟩, by omega, Or.inl ⟨rfl, rfl, rfl⟩⟩, by rw [sv_zero]; exact hV⟩
  · refine ⟨s, ad, n, cap, _, rfl, 2 * q + 1, ⟨hl, hn, Or.inr ⟨q, rfl, hf.2.1, hf.2.2⟩⟩, ?_⟩
    rw [← hV]
    have := sv_down KK s (2 * q + 1) (e + t) e (by omega) he
    rw [show (e + (t : Int) - e).toNat = t by omega, Nat.mul_comm] at this
    exact this.symm
  · exact absurd (gd_fits hV hg he hlo hk) hf
/-- a worth has one right dyad -/
theorem sv_one {s t : Bool} {x y : Nat} {e f : Int} (hx : (x = 0 ∧ s = false ∧ e = 0) ∨ (∃ q, x = 2 * q + 1 ∧ -1048576 ≤ e ∧ e ≤ 1048576)) (hy : (y = 0 ∧ t = false ∧ f = 0) ∨ (∃ q, y = 2 * q + 1 ∧ -1048576 ≤ f ∧ f ≤ 1048576)) (h : sv KK s x e = sv KK t y f) : s = t ∧ x = y ∧ e = f := by
  have hk := KK_eq
  rcases hx with ⟨rfl, rfl, rfl⟩ | ⟨p, rfl, e1, e2⟩
  · rw [sv_zero] at h
    have h0 := sv_eq_zero.1 h.symm
    rcases hy with ⟨rfl, rfl, rfl⟩ | ⟨q, rfl, _⟩
    · exact ⟨rfl, rfl, rfl⟩
    · omega
  · rcases hy with ⟨rfl, rfl, rfl⟩ | ⟨q, rfl, f1, f2⟩
    · rw [sv_zero] at h
      have h0 := sv_eq_zero.1 h
      omega
    · have a1 := sv_abs KK s (2 * p + 1) e
      have a2 := sv_abs KK t (2 * q + 1) f
      rw [h, a2] at a1
      have hs : s = t := by
        have s1 := sv_sign KK s (2 * p + 1) e (by omega)
        have s2 := sv_sign KK t (2 * q + 1) f (by omega)
        rw [h] at s1
        cases s <;> cases t
        · rfl
        · have := s1.2 rfl; have := s2.1 rfl; omega
        · have := s1.1 rfl; have := s2.2 rfl; omega
        · rfl
      have key : ∀ (p q a b : Nat), (2 * q + 1) * 2 ^ b = (2 * p + 1) * 2 ^ a → a ≤ b := by
        intro p q a b hh
        refine Nat.le_of_not_lt fun hlt => ?_
        obtain ⟨d, rfl⟩ : ∃ d, a = b + (d + 1) := ⟨a - b - 1, by omega⟩
        rw [Nat.pow_add, ← Nat.mul_assoc, Nat.mul_right_comm] at hh
        have h1 := Nat.eq_of_mul_eq_mul_right (Nat.two_pow_pos b) hh
        rw [Nat.pow_succ, ← Nat.mul_assoc] at h1
        omega
      have k1 := key _ _ _ _ a1
      have k2 := key _ _ _ _ a1.symm
      have hab : (e + KK).toNat = (f + KK).toNat := Nat.le_antisymm k1 k2
      rw [hab] at a1
      have := Nat.eq_of_mul_eq_mul_right (Nat.two_pow_pos _) a1
      exact ⟨hs, this.symm, by omega⟩

theorem near_exp {s t : Bool} {x y lo k : Nat} {e f U V : Int} (hx : (x = 0 ∧ s = false ∧ e = 0) ∨ (∃ q, x = 2 * q + 1 ∧ -1048576 ≤ e ∧ e ≤ 1048576)) (hy : (y = 0 ∧ t = false ∧ f = 0) ∨ (∃ q, y = 2 * q + 1 ∧ -1048576 ≤ f ∧ f ≤ 1048576)) (hU : sv KK s x e = U) (hV : sv KK t y f = V) (gU : Gd lo k U) (gV : Gd lo k V) (hlo : lo ≤ 100000) (hk : k ≤ 200000) : 0 < x → 0 < y → ¬ 262144 < max e f - min e f := by
  have := KK_eq
  intro h1 h2
  rcases hx with ⟨rfl, _⟩ | ⟨p, rfl, e1, e2⟩
  · omega
  rcases hy with ⟨rfl, _⟩ | ⟨q, rfl, f1, f2⟩
  · omega
  have a := gd_exp hU gU (by omega) hlo
  have b := gd_exp hV gV (by omega) hlo
  omega
end Go.Proofs.Ytcgbdpgfpickaaa
namespace Go.Proofs.Ytcgbdpgfpickaaa
open Go.RowKit
set_option linter.unusedVariables false

theorem keepG {W wo wn : World} {p q B : Nat} {a0 a1 a2 b0 b1 b2 : Value} (g : Gr wo wn) (h : (wo.cell? ⟨p, 0, none⟩ = some (a0) ∧ wo.cell? ⟨p, 1, none⟩ = some (a1) ∧ wo.cell? ⟨p, 2, none⟩ = some (a2) ∧ wo.cell? ⟨q, 0, none⟩ = some (b0) ∧ wo.cell? ⟨q, 1, none⟩ = some (b1) ∧ wo.cell? ⟨q, 2, none⟩ = some (b2)) ∧ (wo.cell? ⟨B, 0, none⟩ = some (cellV wo B 0) ∧ wo.cell? ⟨B, 1, none⟩ = some (cellV wo B 1) ∧ wo.cell? ⟨B, 2, none⟩ = some (cellV wo B 2) ∧ wo.frozen? ⟨B, 0, none⟩ = false ∧ wo.frozen? ⟨B, 1, none⟩ = false ∧ wo.frozen? ⟨B, 2, none⟩ = false) ∧ Gr W wo) :
    (wn.cell? ⟨p, 0, none⟩ = some (a0) ∧ wn.cell? ⟨p, 1, none⟩ = some (a1) ∧ wn.cell? ⟨p, 2, none⟩ = some (a2) ∧ wn.cell? ⟨q, 0, none⟩ = some (b0) ∧ wn.cell? ⟨q, 1, none⟩ = some (b1) ∧ wn.cell? ⟨q, 2, none⟩ = some (b2)) ∧ (wn.cell? ⟨B, 0, none⟩ = some (cellV wn B 0) ∧ wn.cell? ⟨B, 1, none⟩ = some (cellV wn B 1) ∧ wn.cell? ⟨B, 2, none⟩ = some (cellV wn B 2) ∧ wn.frozen? ⟨B, 0, none⟩ = false ∧ wn.frozen? ⟨B, 1, none⟩ = false ∧ wn.frozen? ⟨B, 2, none⟩ = false) ∧ Gr W wn := by
  obtain ⟨⟨h0, h1, h2, h3, h4, h5⟩, ⟨k0, k1, k2, k3, k4, k5⟩, hg⟩ := h
  exact ⟨⟨g.keep h0, g.keep h1, g.keep h2, g.keep h3, g.keep h4, g.keep h5⟩, ⟨cellV_some (g.keep k0), cellV_some (g.keep k1), cellV_some (g.keep k2), g.keepF (lt_of_cell' k0) k3, g.keepF (lt_of_cell' k1) k4, g.keepF (lt_of_cell' k2) k5⟩, hg.trans g⟩
theorem keepStG {W wo : World} {p q B : Nat} {a0 a1 a2 b0 b1 b2 v0 v1 v2 : Value} {B2 : Nat} (hB : B2 = B) (hp : B ≠ p) (hq : B ≠ q) (hW : W.heap.size ≤ B) (h : (wo.cell? ⟨p, 0, none⟩ = some (a0) ∧ wo.cell? ⟨p, 1, none⟩ = some (a1) ∧ wo.cell? ⟨p, 2, none⟩ = some (a2) ∧ wo.cell? ⟨q, 0, none⟩ = some (b0) ∧ wo.cell? ⟨q, 1, none⟩ = some (b1) ∧ wo.cell? ⟨q, 2, none⟩ = some (b2)) ∧ (wo.cell? ⟨B, 0, none⟩ = some (cellV wo B 0) ∧ wo.cell? ⟨B, 1, none⟩ = some (cellV wo B 1) ∧ wo.cell? ⟨B, 2, none⟩ = some (cellV wo B 2) ∧ wo.frozen? ⟨B, 0, none⟩ = false ∧ wo.frozen? ⟨B, 1, none⟩ = false ∧ wo.frozen? ⟨B, 2, none⟩ = false) ∧ Gr W wo) :
    ((((wo.setCell ⟨B2, 0, none⟩ v0).setCell ⟨B2, 1, none⟩ v1).setCell ⟨B2, 2, none⟩ v2).cell? ⟨p, 0, none⟩ = some (a0) ∧ (((wo.setCell ⟨B2, 0, none⟩ v0).setCell ⟨B2, 1, none⟩ v1).setCell ⟨B2, 2, none⟩ v2).cell? ⟨p, 1, none⟩ = some (a1) ∧ (((wo.setCell ⟨B2, 0, none⟩ v0).setCell ⟨B2, 1, none⟩ v1).setCell ⟨B2, 2, none⟩ v2).cell? ⟨p, 2, none⟩ = some (a2) ∧ (((wo.setCell ⟨B2, 0, none⟩ v0).setCell ⟨B2, 1, none⟩ v1).setCell ⟨B2, 2, none⟩ v2).cell? ⟨q, 0, none⟩ = some (b0) ∧ (((wo.setCell ⟨B2, 0, none⟩ v0).setCell ⟨B2, 1, none⟩ v1).setCell ⟨B2, 2, none⟩ v2).cell? ⟨q, 1, none⟩ = some (b1) ∧ (((wo.setCell ⟨B2, 0, none⟩ v0).setCell ⟨B2, 1, none⟩ v1).setCell ⟨B2, 2, none⟩ v2).cell? ⟨q, 2, none⟩ = some (b2)) ∧ ((((wo.setCell ⟨B2, 0, none⟩ v0).setCell ⟨B2, 1, none⟩ v1).setCell ⟨B2, 2, none⟩ v2).cell? ⟨B, 0, none⟩ = some (cellV (((wo.setCell ⟨B2, 0, none⟩ v0).setCell ⟨B2, 1, none⟩ v1).setCell ⟨B2, 2, none⟩ v2) B 0) ∧ (((wo.setCell ⟨B2, 0, none⟩ v0).setCell ⟨B2, 1, none⟩ v1).setCell ⟨B2, 2, none⟩ v2).cell? ⟨B, 1, none⟩ = some (cellV (((wo.setCell ⟨B2, 0, none⟩ v0).setCell ⟨B2, 1, none⟩ v1).setCell ⟨B2, 2, none⟩ v2) B 1) ∧ (((wo.setCell ⟨B2, 0, none⟩ v0).setCell ⟨B2, 1, none⟩ v1).setCell ⟨B2, 2, none⟩ v2).cell? ⟨B, 2, none⟩ = some (cellV (((wo.setCell ⟨B2, 0, none⟩ v0).setCell ⟨B2, 1, none⟩ v1).setCell ⟨B2, 2, none⟩ v2) B 2) ∧ (((wo.setCell ⟨B2, 0, none⟩ v0).setCell ⟨B2, 1, none⟩ v1).setCell ⟨B2, 2, none⟩ v2).frozen? ⟨B, 0, none⟩ = false ∧ (((wo.setCell ⟨B2, 0, none⟩ v0).setCell ⟨B2, 1, none⟩ v1).setCell ⟨B2, 2, none⟩ v2).frozen? ⟨B, 1, none⟩ = false ∧ (((wo.setCell ⟨B2, 0, none⟩ v0).setCell ⟨B2, 1, none⟩ v1).setCell ⟨B2, 2, none⟩ v2).frozen? ⟨B, 2, none⟩ = false) ∧ Gr W (((wo.setCell ⟨B2, 0, none⟩ v0).setCell ⟨B2, 1, none⟩ v1).setCell ⟨B2, 2, none⟩ v2) := by
  subst hB
  obtain ⟨⟨h0, h1, h2, h3, h4, h5⟩, ⟨k0, k1, k2, k3, k4, k5⟩, hg⟩ := h
  refine ⟨⟨set3_far hp h0, set3_far hp h1, set3_far hp h2, set3_far hq h3, set3_far hq h4, set3_far hq h5⟩, ⟨?_, ?_, ?_, by simpa using k3, by simpa using k4, by simpa using k5⟩, ((hg.setCell hW _).setCell hW _).setCell hW _⟩
  · obtain ⟨v, hv⟩ := set3_some k0
    exact cellV_some hv
  · obtain ⟨v, hv⟩ := set3_some k1
    exact cellV_some hv
  · obtain ⟨v, hv⟩ := set3_some k2
    exact cellV_some hv

/-- the unit of a product's worth -/
def PP : Int := ((2 ^ KN : Nat) : Int)
theorem PP_pos : 0 < PP := by
  unfold PP
  have := Nat.two_pow_pos KN
  omega
theorem sv_twice {s : Bool} {m : Nat} {e : Int} (h : 0 ≤ e + KK) : sv (KK + KK) s m e = sv KK s m e * PP := by
  have : m * 2 ^ (e + (KK + KK)).toNat = m * 2 ^ (e + KK).toNat * 2 ^ KN := by
    rw [Nat.mul_assoc, ← Nat.pow_add, show (e + (KK + KK)).toNat = (e + KK).toNat + KN by have : KK = (KN : Int) := rfl; omega]
  unfold sv PP
  rw [this, Int.natCast_mul]
  cases s
  · rfl
  · simp only [if_true, Int.neg_mul]
theorem sv_prod {s t : Bool} {x y : Nat} {e f : Int} (h1 : 0 ≤ e + KK) (h2 : 0 ≤ f + KK) (h3 : 0 ≤ e + f + KK) : sv KK (s != t) (x * y) (e + f) * PP = sv KK s x e * sv KK t y f := by
  rw [← sv_twice h3, sv_mul KK KK s t x y e f h1 h2]
theorem Gd.mul {lo k l : Nat} {U V Z : Int} (h1 : Gd lo k U) (h2 : Gd lo l V) (hZ : Z * PP = U * V) (hlo : lo ≤ 50000) : Gd (lo + lo) (k + l) Z := by
  obtain ⟨a, rfl, ha⟩ := h1
  obtain ⟨b, rfl, hb⟩ := h2
  refine ⟨a * b, ?_, ?_⟩
  · refine Int.eq_of_mul_eq_mul_right (Int.ne_of_gt PP_pos) ?_
    rw [hZ]
    have e1 : ((2 ^ (KN - lo) : Nat) : Int) * ((2 ^ (KN - lo) : Nat) : Int) = ((2 ^ (KN - (lo + lo)) : Nat) : Int) * PP := by
      unfold PP
      rw [← Int.natCast_mul, ← Int.natCast_mul, ← Nat.pow_add, ← Nat.pow_add, show KN - lo + (KN - lo) = KN - (lo + lo) + KN by have := KN_eq; omega]
    rw [Int.mul_assoc, Int.mul_assoc, ← e1]
    generalize ((2 ^ (KN - lo) : Nat) : Int) = p
    rw [← Int.mul_assoc p b p, Int.mul_comm p b]
    ac_rfl
  · rw [Int.natAbs_mul, Nat.pow_add]
    exact Nat.mul_lt_mul_of_lt_of_le ha (Nat.le_of_lt hb) (Nat.two_pow_pos l)
theorem DyAt.len {w : World} {s : Bool} {ad : Option Addr} {n cap x lo k : Nat} {e V : Int} (h : DyAt w s ad n cap e x) (hV : sv KK s x e = V) (hg : Gd lo k V) (hlo : lo ≤ 100000) : 64 * n ≤ k + 63 := by
  obtain ⟨xs, h1, h2⟩ := h.lim
  have h3 := len_bl h2
  rw [h1.len] at h3
  have hkk := KK_eq
  rcases h.right with ⟨rfl, _⟩ | ⟨q, rfl, e1, e2⟩
  · rw [bl_zero] at h3
    omega
  · have h4 := gd_odd (t := 0) (s := s) (q := q) (e := e) (by rw [Nat.pow_zero, Nat.one_mul]; exact hV) hg (by omega) hlo
    have h5 := bl_le_of_lt h4.2.2
    omega
end Go.Proofs.Ytcgbdpgfpickaaa
namespace Go.Proofs.Ytcgbdpgfpickaaa
open Go.RowKit
set_option linter.unusedVariables false

theorem cmpI_sg (a b : Int) : cmpI a b = sg (a - b) := by
  rcases Int.lt_trichotomy a b with h | h | h
  · rw [cmpI_lt h, sg_neg (by omega)]
  · subst h; rw [cmpI_eq rfl, Int.sub_self, sg_zero]
  · rw [cmpI_gt h, sg_pos (by omega)]
theorem gr2 {w : World} (o1 o2 : Obj) : Gr w ((w.alloc o1).alloc o2) := ((Gr.refl w).alloc o1).alloc o2

end Go.Proofs.Ytcgbdpgfpickaaa
namespace Go.Proofs.Ytcgbdpgfpickaaa
open Go.RowKit
set_option linter.unusedVariables false

theorem DyV.sign {w : World} {s : Bool} {ad : Option Addr} {n cap : Nat} {e V : Int} (h : DyV w s ad n cap e V) : (s = true → V < 0) ∧ (s = false → 0 ≤ V) ∧ (n = 0 ↔ V = 0) ∧ (s = false → 0 < n → 0 < V) := by
  obtain ⟨x, hd, rfl⟩ := h
  have hz : n = 0 ↔ x = 0 := by
    obtain ⟨xs, h1, h2⟩ := hd.lim
    rw [← h1.len]; exact h2.zero_iff (by omega)
  rcases hd.right with ⟨rfl, rfl, rfl⟩ | ⟨q, rfl, _⟩
  · rw [sv_zero]
    refine ⟨fun h => by simp at h, fun _ => by omega, by omega, fun _ h => by omega⟩
  · have h1 := sv_sign KK s (2 * q + 1) e (by omega)
    refine ⟨h1.1, fun h => by have := h1.2 h; omega, ?_, fun h _ => h1.2 h⟩
    rw [sv_eq_zero]; exact hz
end Go.Proofs.Ytcgbdpgfpickaaa
namespace Go.Proofs.Ytcgbdpgfpickaaa
open Go.RowKit
set_option linter.unusedVariables false

theorem one_limb (w : World) (o1 : Obj) (v : Nat) (v0 : 0 < v) (v1 : v < 18446744073709551616) : Lim ((w.alloc o1).alloc (.cells #[.int .u64 (v : Int)] 47)) (some ⟨w.heap.size + 1, 0, none⟩) 1 1 18446744073709551616 v := by
  refine ⟨[v], ⟨rfl, Nat.le_refl _, by omega, (fun h => by cases h), fun _ => ⟨w.heap.size + 1, 0, rfl, by simp, fun j hj => ?_⟩⟩, by simp [nv], by simpa using v1, fun k hk => ?_⟩
  · obtain rfl : j = 0 := by omega
    have := second_block w o1 (.cells #[.int .u64 (v : Int)] 47)
    simp only [World.cell?, this, Nat.zero_add]
    rfl
  · obtain rfl : k = 0 := by simp at hk; omega
    simp; omega
theorem gd_of {s : Bool} {x lo k n : Nat} {e : Int} (hx : x < 2 ^ n) (h1 : -(lo : Int) ≤ e) (h2 : e + lo + n ≤ k) (hlo : lo ≤ 100000) : Gd lo k (sv KK s x e) := by
  have hk : KK = (KN : Int) := rfl
  have hn := KN_eq
  have key : x * 2 ^ (e + KK).toNat = x * 2 ^ (e + lo).toNat * 2 ^ (KN - lo) := by
    rw [Nat.mul_assoc, ← Nat.pow_add, show (e + (lo : Int)).toNat + (KN - lo) = (e + KK).toNat by omega]
  have hlt : x * 2 ^ (e + lo).toNat < 2 ^ k := by
    refine Nat.lt_of_lt_of_le (Nat.mul_lt_mul_of_pos_right hx (Nat.two_pow_pos _)) ?_
    rw [← Nat.pow_add]
    exact Nat.pow_le_pow_right (by omega) (by omega)
  unfold sv
  rw [key]
  generalize x * 2 ^ (e + lo).toNat = m at *
  cases s
  · exact ⟨(m : Int), by simp only [Bool.false_eq_true, if_false, Int.natCast_mul], by simpa using hlt⟩
  · exact ⟨-(m : Int), by simp only [if_true, Int.natCast_mul, Int.neg_mul], by simpa using hlt⟩
/-- a right dyad's limbs -/
theorem dyAt_of {w : World} {s : Bool} {ad : Option Addr} {n cap : Nat} {e : Int} {xs : List Nat} (rx : Row w ad n cap xs) (hx : ∀ x ∈ xs, x < 18446744073709551616) (hR : RightD s xs e) : DyAt w s ad n cap e (nv 18446744073709551616 xs) := by
  have hl := rx.len
  rcases hR with ⟨h1, rfl, rfl⟩ | ⟨h1, h2, h3, h4, h5, h6⟩
  · have := List.eq_nil_of_length_eq_zero h1
    subst this
    exact ⟨⟨[], rx, Dg.nil⟩, by simp at hl; omega, Or.inl ⟨rfl, rfl, rfl⟩⟩
  · have hd : Dg 18446744073709551616 (nv 18446744073709551616 xs) xs := ⟨rfl, hx, fun k hk => by rw [show k = xs.length - 1 by omega]; exact h3⟩
    refine ⟨⟨xs, rx, hd⟩, by omega, Or.inr ?_⟩
    have := odd_digit hd h1
    exact ⟨nv 18446744073709551616 xs / 2, by omega, h5, h6⟩
theorem dyAt_lt {w : World} {s : Bool} {ad : Option Addr} {n cap x : Nat} {e : Int} (h : DyAt w s ad n cap e x) : x < 2 ^ (64 * n) := by
  obtain ⟨xs, h1, h2⟩ := h.lim
  rw [← pow64, ← h1.len]; exact h2.upper
end Go.Proofs.Ytcgbdpgfpickaaa
namespace Go.Proofs.Ytcgbdpgfpickaaa
open Go.RowKit
set_option linter.unusedVariables false

theorem u64_in (v : Nat) (h : v < 18446744073709551616) : IntKind.u64.wrap (v : Int) = (v : Int) := by
  rw [IntKind.wrap_u64, Int.emod_eq_of_lt (by omega) (by omega)]
theorem lim_one {w : World} {ad : Option Addr} {n cap x : Nat} (h : Lim w ad n cap 18446744073709551616 x) (h0 : 0 < x) (h1 : x < 18446744073709551616) : n = 1 := by
  obtain ⟨xs, r, d⟩ := h
  have a := (d.zero_iff (by omega)).1
  rw [r.len] at a
  refine Nat.le_antisymm (Nat.le_of_not_lt fun hlt => ?_) (by omega)
  have b := d.lower (k := n - 1) (by rw [r.len]; omega)
  have c : 18446744073709551616 ^ 1 ≤ 18446744073709551616 ^ (n - 1) := Nat.pow_le_pow_right (by omega) (by omega)
  rw [Nat.pow_one] at c
  omega

theorem limb_alloc (w : World) (v : Nat) (v0 : 0 < v) (v1 : v < 18446744073709551616) : Lim (w.alloc (.cells #[.int .u64 (v : Int)] 47)) (some ⟨w.heap.size, 0, none⟩) 1 1 18446744073709551616 v := by
  refine ⟨[v], ⟨rfl, Nat.le_refl _, by omega, (fun h => by cases h), fun _ => ⟨w.heap.size, 0, rfl, by simp, fun j hj => ?_⟩⟩, by simp [nv], by simpa using v1, fun k hk => ?_⟩
  · obtain rfl : j = 0 := by omega
    have : (w.alloc (.cells #[.int .u64 (v : Int)] 47)).heap[w.heap.size]? = some (.cells #[.int .u64 (v : Int)] 47) := by
      show (w.heap.push _)[w.heap.size]? = _
      simp only [Array.getElem?_push]
      rw [if_pos trivial]
    simp only [World.cell?, this, Nat.zero_add]
    rfl
  · obtain rfl : k = 0 := by simp at hk; omega
    simp; omega
end Go.Proofs.Ytcgbdpgfpickaaa
namespace Go.Proofs.Ytcgbdpgfpickaaa
open Go.RowKit
set_option linter.unusedVariables false

open Ieee in
theorem mul_run (w : World) (x y r : Nat) (h : double.mul x y = some r) : (binOp .mul 22 (.float .f64 x) (.float .f64 y)).run Try.prog w = .ok (.float .f64 r) w :=
  run_float_arith (P := Try.prog) w .mul 22 .f64 x y r h
def nanB (x : Nat) : Bool := (FloatKind.f64.format.order x x != some .eq)
def absN (x : Nat) : Nat := (bits BinOp.andNot IntKind.u64 x 9223372036854775808).toNat
def pinfB (x : Nat) : Bool := FloatKind.f64.format.order x 9218868437227405311 == some .gt
def copyN (x y : Nat) : Nat := (bits BinOp.or IntKind.u64 (bits BinOp.andNot IntKind.u64 x 9223372036854775808) (bits BinOp.and IntKind.u64 y 9223372036854775808)).toNat
theorem fbits50 (x : Nat) (w : World) : (callFunc 34 #[.float .f64 x]).run Try.prog w = .ok (.value (.int .u64 x)) w := by
  kernel_rfl
theorem from68 (x : Int) (w : World) : (callFunc 33 #[.int .u64 x]).run Try.prog w = .ok (.value (.float .f64 x.toNat)) w := by
  kernel_rfl
theorem nan43 (x : Nat) (w : World) : Calls Try.prog 35 #[.float .f64 x] w fun e w' => e = .returned (.bool (nanB x)) ∧ w' = w := by
  go_enter Try.func35, Try.ntmps35
  go_wp2
  go_ret
  exact ⟨rfl, rfl⟩
theorem abs47 (x : Nat) (w : World) : Calls Try.prog 19 #[.float .f64 x] w fun e w' => e = .returned (.float .f64 (absN x)) ∧ w' = w := by
  have h1 := fbits50
  have h2 := from68
  go_enter Try.func19, Try.ntmps19
  go_wp2
  go_ret
  exact ⟨rfl, rfl⟩
theorem inf44 (x : Nat) (w : World) : Calls Try.prog 41 #[.float .f64 x, .int .i64 0] w fun e w' => e = .returned (.bool (pinfB (absN x))) ∧ w' = w := by
  go_enter Try.func41, Try.ntmps41
  go_wp2_with (go_at_call 19; refine (abs47 _ _).mono ?_; rintro e w' ⟨rfl, rfl⟩)
  go_ret
  exact ⟨rfl, rfl⟩
theorem copy49 (x y : Nat) (w : World) : Calls Try.prog 14 #[.float .f64 x, .float .f64 y] w fun e w' => e = .returned (.float .f64 (copyN x y)) ∧ w' = w := by
  have h1 := fbits50
  have h2 := from68
  go_enter Try.func14, Try.ntmps14
  go_wp2
  go_ret
  exact ⟨rfl, rfl⟩
theorem norm81 (x : Nat) (w : World) (h : (FloatKind.f64.format.order (absN x) 4503599627370496 == some .lt) = false) :
    Calls Try.prog 50 #[.float .f64 x] w fun e w' => e = .returned (.tuple #[.float .f64 x, .int .i64 0]) ∧ w' = w := by
  go_enter Try.func50, Try.ntmps50
  go_wp2_with (go_at_call 19; refine (abs47 _ _).mono ?_; rintro e w' ⟨rfl, rfl⟩)
  go_ret2
  exact ⟨rfl, rfl⟩
theorem ldexp67 (x f z y : Nat) (e k E S : Int) (w : World) (h0 : (FloatKind.f64.format.order x 0 == some .eq) = false) (h1 : pinfB (absN x) = false) (h2 : nanB x = false)
    (hn : ∀ w, Calls Try.prog 50 #[.float .f64 x] w fun e w' => e = .returned (.tuple #[.float .f64 f, .int .i64 k]) ∧ w' = w) (he1 : -5000 ≤ e) (he2 : e ≤ 5000) (hk1 : -52 ≤ k) (hk2 : k ≤ 0)
    (hE : bits BinOp.and IntKind.i64 (wrap64 (↑f / 4503599627370496)) 2047 = E) (hE1 : 0 ≤ E) (hE2 : E ≤ 2047) (hS : e + k + (E - 1023) = S) (hS1 : -1022 ≤ S) (hS2 : S ≤ 1023)
    (hc : bits BinOp.andNot IntKind.u64 (f : Int) 9218868437227405312 = (y : Int)) (hp : bits BinOp.or IntKind.u64 (y : Int) ((S + 1023) * 4503599627370496) = (z : Int)) (hr : Ieee.double.mul 4607182418800017408 z = some z) :
    Calls Try.prog 38 #[.float .f64 x, .int .i64 e] w fun e w' => e = .returned (.float .f64 z) ∧ w' = w := by
  have g := mul_run w _ _ _ hr
  clear hr
  have b1 := fbits50
  have b2 := from68
  have HN : Hid (∀ w, Calls Try.prog 50 #[.float .f64 x] w fun e w' => e = .returned (.tuple #[.float .f64 f, .int .i64 k]) ∧ w' = w) := hn
  clear hn
  subst hS
  go_enter Try.func38, Try.ntmps38
  go_wp2_with (first | (go_at_call 41; refine (inf44 _ _).mono ?_; rintro e w' ⟨rfl, rfl⟩) | (go_at_call 35; refine (nan43 _ _).mono ?_; rintro e w' ⟨rfl, rfl⟩) | (go_at_call 50; refine (HN.out _).mono ?_; rintro e w' ⟨rfl, rfl⟩))
  go_ret
  exact ⟨rfl, rfl⟩
theorem ldexp46 (x z : Nat) (e : Int) (w : World) (h : ∀ w, Calls Try.prog 38 #[.float .f64 x, .int .i64 e] w fun e w' => e = .returned (.float .f64 z) ∧ w' = w) :
    Calls Try.prog 22 #[.float .f64 x, .int .i64 e] w fun e w' => e = .returned (.float .f64 z) ∧ w' = w := by
  have H : Hid (∀ w, Calls Try.prog 38 #[.float .f64 x, .int .i64 e] w fun e w' => e = .returned (.float .f64 z) ∧ w' = w) := h
  clear h
  go_enter Try.func22, Try.ntmps22
  go_wp2_with (go_at_call 38; refine (H.out _).mono ?_; rintro e w' ⟨rfl, rfl⟩)
  go_ret
  exact ⟨rfl, rfl⟩
theorem ldexpC (w : World) : Calls Try.prog 22 #[.float .f64 4843621399236968448, .int .i64 (-52)] w fun e w' => e = .returned (.float .f64 4609434218613702656) ∧ w' = w :=
  ldexp46 _ _ _ w fun w => ldexp67 4843621399236968448 4843621399236968448 4609434218613702656 2251799813685248 (-52) 0 1075 0 w (by decide +kernel) (by decide +kernel) (by decide +kernel) (fun w => norm81 _ w (by decide +kernel)) (by omega) (by omega) (by omega) (by omega) (by decide +kernel) (by omega) (by omega) (by omega) (by omega) (by omega) (by decide +kernel) (by decide +kernel) (by decide +kernel)
theorem isInfC (w : World) : Calls Try.prog 41 #[.float .f64 4609434218613702656, .int .i64 0] w fun e w' => e = .returned (.bool false) ∧ w' = w := by
  have := inf44 4609434218613702656 w
  rw [show pinfB (absN 4609434218613702656) = false by decide +kernel] at this
  exact this
theorem copysignC (w : World) : Calls Try.prog 14 #[.float .f64 4609434218613702656, .float .f64 13830554455654793216] w fun e w' => e = .returned (.float .f64 13832806255468478464) ∧ w' = w := by
  have := copy49 4609434218613702656 13830554455654793216 w
  rw [show copyN 4609434218613702656 13830554455654793216 = 13832806255468478464 by decide +kernel] at this
  exact this
theorem keep4 {W wo wn : World} {p : Nat} {a0 a1 a2 : Value} (g : Gr wo wn) (h : (wo.cell? ⟨p, 0, none⟩ = some a0 ∧ wo.cell? ⟨p, 1, none⟩ = some a1 ∧ wo.cell? ⟨p, 2, none⟩ = some a2) ∧ Gr W wo) :
    (wn.cell? ⟨p, 0, none⟩ = some a0 ∧ wn.cell? ⟨p, 1, none⟩ = some a1 ∧ wn.cell? ⟨p, 2, none⟩ = some a2) ∧ Gr W wn :=
  ⟨⟨g.keep h.1.1, g.keep h.1.2.1, g.keep h.1.2.2⟩, h.2.trans g⟩
end Go.Proofs.Ytcgbdpgfpickaaa
namespace Go.Proofs.Ytcgbdpgfpickaaa
open Go.RowKit
set_option linter.unusedVariables false

theorem ret_bool' {a b : Bool} (h : a = b) : Ending.returned (.bool a) = .returned (.bool b) := by rw [h]
def bitB (x p : Nat) : Bool := decide (x / 2 ^ p % 2 = 1)
theorem bit_of {x q r : Nat} {xs : List Nat} (h : Dg 18446744073709551616 x xs) (hq : q < xs.length) (hr : r < 64) : x / 2 ^ (64 * q + r) % 2 = xs.getD q 0 / 2 ^ r % 2 := by
  have h1 := nv_split 18446744073709551616 xs q hq
  rw [h.1] at h1
  have hlt : nv 18446744073709551616 (xs.take q) < 18446744073709551616 ^ q := by
    have := nv_lt 18446744073709551616 (xs.take q) (fun y hy => h.2.1 y (List.mem_of_mem_take hy))
    rwa [List.length_take, Nat.min_eq_left (by omega)] at this
  have h2 : x / 18446744073709551616 ^ q = xs.getD q 0 + 18446744073709551616 * nv 18446744073709551616 (xs.drop (q + 1)) := by
    rw [h1, Nat.add_mul_div_left _ _ (Nat.pow_pos (by omega)), Nat.div_eq_of_lt hlt, Nat.zero_add]
  rw [Nat.pow_add, ← Nat.div_div_eq_div_mul, ← pow64, h2]
  generalize xs.getD q 0 = v
  generalize nv 18446744073709551616 (xs.drop (q + 1)) = T
  have e : 18446744073709551616 * T = 2 ^ r * (2 * (2 ^ (63 - r) * T)) := by
    rw [two64 hr, show 64 - r = 63 - r + 1 by omega, Nat.pow_succ]; ac_rfl
  rw [e, Nat.add_mul_div_left _ _ (Nat.two_pow_pos r)]
  omega
end Go.Proofs.Ytcgbdpgfpickaaa
