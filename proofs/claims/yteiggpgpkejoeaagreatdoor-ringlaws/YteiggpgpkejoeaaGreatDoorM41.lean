import Derived.Test.YteiggpgpkejoeaaGreatDoorM40
namespace Go.Proofs.YteiggpgpkejoeaaGreatDoor.Jx
open Go.Proofs.YteiggpgpkejoeaaGreatDoor.Fl
open Ieee
open Go.Proofs.YteiggpgpkejoeaaGreatDoor.Er
set_option linter.unusedVariables false

/-! A PRODUCT BY A TOLD ROOT, AND A STEP -/
def vz (z : Nat × Nat) : Cx := ⟨vr z.1, vr z.2⟩
def FiZ (z : Nat × Nat) : Prop := Fi z.1 ∧ Fi z.2
theorem u0_pos : 0 < u0 := by unfold u0; grind
/-- one part of a product: two products, put together -/
theorem part_err {A B x1 x2 x T e g : Rat} (hu : 0 < u0) (hu1 : u0 ≤ 1 / 1000) (hg : 0 ≤ g) (h1 : ab (x1 - A) ≤ u0 * ab A + g) (h2 : ab (x2 - B) ≤ u0 * ab B + g) (h3 : ab (x - T) ≤ u0 * ab T) (hT : T = x1 + x2 ∨ T = x1 - x2) (hS : e = A + B ∧ T = x1 + x2 ∨ e = A - B ∧ T = x1 - x2) :
    ab (x - e) ≤ (2 * u0 + u0 * u0) * (ab A + ab B) + 3 * g := by
  have a1 := le_ab (x1 - A); have a2 := neg_le_ab (x1 - A)
  have b1 := le_ab (x2 - B); have b2 := neg_le_ab (x2 - B)
  have c1 := le_ab (x - T); have c2 := neg_le_ab (x - T)
  have hA := ab_nn A; have hB := ab_nn B
  have a3 := le_ab A; have a4 := neg_le_ab A
  have b3 := le_ab B; have b4 := neg_le_ab B
  have hTb : ab T ≤ (1 + u0) * (ab A + ab B) + 2 * g := by
    rcases hT with h | h <;> subst h <;> refine ab_le ?_ ?_ <;> grind
  have h4 := Rat.mul_le_mul_of_nonneg_left hTb (Rat.le_of_lt hu)
  have h5 := Rat.mul_le_mul_of_nonneg_right hu1 hg
  rcases hS with ⟨rfl, h⟩ | ⟨rfl, h⟩ <;> subst h <;> refine ab_le ?_ ?_ <;> grind
/-- the square of what is off -/
theorem sq_off {x k P g : Rat} (h : ab x ≤ k * P + 3 * g) (hk : 0 ≤ k * P) (hg : 0 ≤ g) : x * x ≤ 1001 / 1000 * (k * P) * (k * P) + 9009 * (g * g) := by
  have h1 := sq_ab h
  have h2 := sq_nn (k * P - 3000 * g)
  grind
theorem cauchy4 (c s p q : Rat) : (ab (c * p) + ab (s * q)) * (ab (c * p) + ab (s * q)) + (ab (c * q) + ab (s * p)) * (ab (c * q) + ab (s * p)) ≤ 2 * (c * c + s * s) * (p * p + q * q) := by
  have h1 := sq_nn (ab (c * p) - ab (s * q))
  have h2 := sq_nn (ab (c * q) - ab (s * p))
  have e1 := ab_sq (c * p)
  have e2 := ab_sq (s * q)
  have e3 := ab_sq (c * q)
  have e4 := ab_sq (s * p)
  grind
theorem join_off {a b k P Q G X Y u : Rat} (q1 : a * a ≤ 1001 / 1000 * (k * P) * (k * P) + G) (q2 : b * b ≤ 1001 / 1000 * (k * Q) * (k * Q) + G) (m1 : 1001 / 1000 * (k * k) * (P * P + Q * Q) ≤ 1001 / 1000 * (k * k) * (2 * X * Y)) (m2 : 1001 / 1000 * (k * k) * 2 * (X * Y) ≤ u * (X * Y)) : a * a + b * b ≤ u * (X * Y) + (G + G) := by grind
/-- THE PRODUCT: off by 8.01 u u of the squares, at most -/
theorem mul_off {z y : Nat × Nat} (hz : FiZ z) (hy : FiZ y) (hb : ∀ a b, (a = z.1 ∨ a = z.2) → (b = y.1 ∨ b = y.2) → ab (vr a * vr b) ≤ 100 * (Bg : Rat)) :
    FiZ (mulZ z y) ∧ N (vz (mulZ z y) - vz z * vz y) ≤ 801 / 100 * (u0 * u0) * (N (vz z) * N (vz y)) + 18018 * (iU * iU) ∧ ab (vr (mulZ z y).1) ≤ 300 * (Bg : Rat) ∧ ab (vr (mulZ z y).2) ≤ 300 * (Bg : Rat) := by
  obtain ⟨c, s⟩ := z
  obtain ⟨p, q⟩ := y
  obtain ⟨hc, hs⟩ := hz
  obtain ⟨hp, hq⟩ := hy
  simp only [] at hc hs hp hq hb
  have Bp : (1 : Rat) ≤ (Bg : Rat) := cast_le (m := 1) Bg_pos
  have b1 := hb c p (Or.inl rfl) (Or.inl rfl)
  have b2 := hb s q (Or.inr rfl) (Or.inr rfl)
  have b3 := hb c q (Or.inl rfl) (Or.inr rfl)
  have b4 := hb s p (Or.inr rfl) (Or.inl rfl)
  have iu := iU_pos
  have iu1 : iU ≤ 1 := by
    have h1 := U_iU
    have h2 : (1 : Rat) ≤ ((U : Nat) : Rat) := cast_le (m := 1) U_pos
    have := Rat.mul_le_mul_of_nonneg_right h2 (Rat.le_of_lt iu)
    grind
  have up := u0_pos
  have u1 : u0 ≤ 1 / 1000 := by unfold u0; grind
  have sz : ∀ {x A : Rat}, ab (x - A) ≤ u0 * ab A + iU → ab A ≤ 100 * (Bg : Rat) → ab x ≤ 102 * (Bg : Rat) := fun {x A} h1 h2 => by
    have := Rat.mul_le_mul_of_nonneg_right u1 (ab_nn A)
    have a1 := le_ab (x - A); have a2 := neg_le_ab (x - A)
    have a3 := le_ab A; have a4 := neg_le_ab A
    refine ab_le ?_ ?_ <;> grind
  have sz2 : ∀ {x y A : Rat}, ab (x - A) ≤ u0 * ab A → ab A ≤ 204 * (Bg : Rat) → ab x ≤ 300 * (Bg : Rat) := fun {x y A} h1 h2 => by
    have := Rat.mul_le_mul_of_nonneg_right u1 (ab_nn A)
    have a1 := le_ab (x - A); have a2 := neg_le_ab (x - A)
    have a3 := le_ab A; have a4 := neg_le_ab A
    refine ab_le ?_ ?_ <;> grind
  obtain ⟨f1, e1⟩ := rP hc hp (by grind)
  obtain ⟨f2, e2⟩ := rP hs hq (by grind)
  obtain ⟨f3, e3⟩ := rP hc hq (by grind)
  obtain ⟨f4, e4⟩ := rP hs hp (by grind)
  have s1 := sz e1 b1
  have s2 := sz e2 b2
  have s3 := sz e3 b3
  have s4 := sz e4 b4
  have t1 : ab (vr (fP c p) - vr (fP s q)) ≤ 204 * (Bg : Rat) := by have := ab_sub (vr (fP c p)) (vr (fP s q)); grind
  have t2 : ab (vr (fP c q) + vr (fP s p)) ≤ 204 * (Bg : Rat) := by have := ab_add (vr (fP c q)) (vr (fP s p)); grind
  obtain ⟨f5, e5⟩ := rS f1 f2 (by grind)
  obtain ⟨f6, e6⟩ := rA f3 f4 (by grind)
  have r1 := part_err (e := vr c * vr p - vr s * vr q) up u1 (Rat.le_of_lt iu) e1 e2 e5 (Or.inr rfl) (Or.inr ⟨rfl, rfl⟩)
  have r2 := part_err (e := vr c * vr q + vr s * vr p) up u1 (Rat.le_of_lt iu) e3 e4 e6 (Or.inl rfl) (Or.inl ⟨rfl, rfl⟩)
  refine ⟨⟨f5, f6⟩, ?_, sz2 (y := 0) e5 t1, sz2 (y := 0) e6 t2⟩
  have k0 : 0 ≤ 2 * u0 + u0 * u0 := by have := Rat.mul_pos up up; grind
  have q1 := sq_off r1 (Rat.mul_nonneg k0 (by have := ab_nn (vr c * vr p); have := ab_nn (vr s * vr q); grind)) (Rat.le_of_lt iu)
  have q2 := sq_off r2 (Rat.mul_nonneg k0 (by have := ab_nn (vr c * vr q); have := ab_nn (vr s * vr p); grind)) (Rat.le_of_lt iu)
  have cs := cauchy4 (vr c) (vr s) (vr p) (vr q)
  have hk : 1001 / 1000 * ((2 * u0 + u0 * u0) * (2 * u0 + u0 * u0)) * 2 ≤ 801 / 100 * (u0 * u0) := by unfold u0; grind
  have hk0 : 0 ≤ 1001 / 1000 * ((2 * u0 + u0 * u0) * (2 * u0 + u0 * u0)) := Rat.mul_nonneg (by grind) (Rat.mul_nonneg k0 k0)
  have m1 := Rat.mul_le_mul_of_nonneg_left cs hk0
  have m2 := Rat.mul_le_mul_of_nonneg_right hk (Rat.mul_nonneg (N_nn (vz (c, s))) (N_nn (vz (p, q))))
  show (vr (fS (fP c p) (fP s q)) - (vr c * vr p - vr s * vr q)) * (vr (fS (fP c p) (fP s q)) - (vr c * vr p - vr s * vr q)) + (vr (fA (fP c q) (fP s p)) - (vr c * vr q + vr s * vr p)) * (vr (fA (fP c q) (fP s p)) - (vr c * vr q + vr s * vr p)) ≤ _
  have en : N (vz (c, s)) * N (vz (p, q)) = (vr c * vr c + vr s * vr s) * (vr p * vr p + vr q * vr q) := rfl
  rw [en] at m2 ⊢
  have := join_off q1 q2 m1 m2
  rw [show (18018 : Rat) * (iU * iU) = 9009 * (iU * iU) + 9009 * (iU * iU) by grind]
  exact this
/-- a sum of two, weighed -/
theorem N_add2 (a b : Cx) (x y : Rat) (hx : 0 < x) (hxy : x * y = 1) : N (a + b) ≤ (1 + x) * N a + (1 + y) * N b := by
  have h1 := sq_nn (x * a.re - b.re)
  have h2 := sq_nn (x * a.im - b.im)
  have hy : 0 < y := by
    refine Rat.not_le.1 fun h => ?_
    have := Rat.mul_nonneg (a := x) (b := -y) (Rat.le_of_lt hx) (by grind)
    grind
  have h3 := Rat.mul_nonneg (Rat.le_of_lt hy) h1
  have h4 := Rat.mul_nonneg (Rat.le_of_lt hy) h2
  have e1 : y * ((x * a.re - b.re) * (x * a.re - b.re)) = x * (a.re * a.re) - 2 * (a.re * b.re) + y * (b.re * b.re) := by
    rw [show y * ((x * a.re - b.re) * (x * a.re - b.re)) = (x * y) * (x * (a.re * a.re)) - 2 * (x * y) * (a.re * b.re) + y * (b.re * b.re) by grind, hxy]; grind
  have e2 : y * ((x * a.im - b.im) * (x * a.im - b.im)) = x * (a.im * a.im) - 2 * (a.im * b.im) + y * (b.im * b.im) := by
    rw [show y * ((x * a.im - b.im) * (x * a.im - b.im)) = (x * y) * (x * (a.im * a.im)) - 2 * (x * y) * (a.im * b.im) + y * (b.im * b.im) by grind, hxy]; grind
  unfold N
  rw [add_re, add_im]
  grind
theorem ab_of_sq {x B : Rat} (hB : 0 ≤ B) (h : x * x ≤ B * B) : ab x ≤ B := sq_le hB (by rw [ab_sq]; exact h)
/-- a told root near a true one -/
structure RootN (z : Nat × Nat) (r : Cx) : Prop where
  fin : FiZ z
  unit : N r = 1
  near : N (vz z - r) ≤ 5001 / 10000 * (u0 * u0)
theorem RootN.le {z : Nat × Nat} {r : Cx} (h : RootN z r) : N (vz z) ≤ 1001 / 1000 := by
  have h1 := N_add2 r (vz z - r) (1 / 2000) 2000 (by grind) (by grind)
  rw [show r + (vz z - r) = vz z by grind, h.unit] at h1
  have h2 := h.near
  have h3 : 2001 * (5001 / 10000 * (u0 * u0)) ≤ 1 / 2000 := by unfold u0; grind
  grind
theorem N_re (z : Cx) : z.re * z.re ≤ N z := by have := sq_nn z.im; unfold N; grind
theorem N_im (z : Cx) : z.im * z.im ≤ N z := by have := sq_nn z.re; unfold N; grind
/-- a told root times a told number, against the true root -/
theorem root_off {z y : Nat × Nat} {r : Cx} (hr : RootN z r) (hy : FiZ y) (hb : N (vz y) ≤ (Bg : Rat) * (Bg : Rat)) :
    FiZ (mulZ z y) ∧ N (vz (mulZ z y) - r * vz y) ≤ 126 / 10 * (u0 * u0) * N (vz y) + 30000 * (iU * iU) ∧ ab (vr (mulZ z y).1) ≤ 300 * (Bg : Rat) ∧ ab (vr (mulZ z y).2) ≤ 300 * (Bg : Rat) := by
  have hB := cast_nn Bg
  have hle := hr.le
  have z1 : ab (vr z.1) ≤ 2 := ab_of_sq (by grind) (by have := N_re (vz z); have e : (vz z).re = vr z.1 := rfl; rw [e] at this; grind)
  have z2 : ab (vr z.2) ≤ 2 := ab_of_sq (by grind) (by have := N_im (vz z); have e : (vz z).im = vr z.2 := rfl; rw [e] at this; grind)
  have y1 : ab (vr y.1) ≤ Bg := ab_of_sq hB (by have := N_re (vz y); have e : (vz y).re = vr y.1 := rfl; rw [e] at this; grind)
  have y2 : ab (vr y.2) ≤ Bg := ab_of_sq hB (by have := N_im (vz y); have e : (vz y).im = vr y.2 := rfl; rw [e] at this; grind)
  obtain ⟨f, h1, h2, h3⟩ := mul_off hr.fin hy (fun a b ha hb' => by
    rw [ab_mul]
    have ha' : ab (vr a) ≤ 2 := by rcases ha with rfl | rfl <;> assumption
    have hb'' : ab (vr b) ≤ Bg := by rcases hb' with rfl | rfl <;> assumption
    have := mul_le (ab_nn (vr a)) ha' (ab_nn (vr b)) hb''
    grind)
  refine ⟨f, ?_, h2, h3⟩
  have h4 := N_add2 (vz (mulZ z y) - vz z * vz y) ((vz z - r) * vz y) (1 / 4) 4 (by grind) (by grind)
  rw [show vz (mulZ z y) - vz z * vz y + (vz z - r) * vz y = vz (mulZ z y) - r * vz y by grind, N_mul] at h4
  have hy0 := N_nn (vz y)
  have h5 := Rat.mul_le_mul_of_nonneg_right hr.near hy0
  have uu : 0 ≤ u0 * u0 := Rat.le_of_lt (Rat.mul_pos u0_pos u0_pos)
  have h6 := Rat.mul_le_mul_of_nonneg_left (Rat.mul_le_mul_of_nonneg_right hle hy0) (show 0 ≤ 801 / 100 * (u0 * u0) by grind)
  have ii : 0 ≤ iU * iU := Rat.le_of_lt (Rat.mul_pos iU_pos iU_pos)
  have h7 := Rat.mul_nonneg uu hy0
  generalize N (vz y) = Y at *
  generalize u0 * u0 = V at *
  grind
theorem step_num {A B T D X1 X2 Y1 Y2 Z1 Z2 I V : Rat} (uu : 0 ≤ V) (uu1 : V ≤ 1 / 1000000000000) (ii : 0 ≤ I) (na : 0 ≤ A) (nb : 0 ≤ B) (h1 : D ≤ 126 / 10 * V * B + 30000 * I) (s1 : X1 ≤ V * Y1) (s2 : X2 ≤ V * Y2) (w1 : Z1 ≤ (1 + 2 / 7) * D + (1 + 7 / 2) * X1) (w2 : Z2 ≤ (1 + 2 / 7) * D + (1 + 7 / 2) * X2) (par : Y1 + Y2 = 2 * A + 2 * T) (w3 : T ≤ (1 + 1 / 1000) * (1 * B) + (1 + 1000) * D) : Z1 + Z2 ≤ 42 * V * (A + B) + 100000 * I := by
  have k1 := Rat.mul_le_mul_of_nonneg_right uu1 nb
  have k2 := Rat.mul_le_mul_of_nonneg_right uu1 ii
  have k3 : T ≤ 101 / 100 * B + 30030000 * I := by grind
  have k4 := Rat.mul_le_mul_of_nonneg_left k3 uu
  have k5 : X1 + X2 ≤ 2 * V * A + 2 * (V * T) := by
    have : V * Y1 + V * Y2 = V * (2 * A + 2 * T) := by rw [← par]; grind
    grind
  have k6 := Rat.mul_nonneg uu nb
  have k7 := Rat.mul_nonneg uu na
  grind
/-- ONE STEP: both numbers, against the true step of what stood there -/
theorem step_off {z a b : Nat × Nat} {r : Cx} (hr : RootN z r) (ha : FiZ a) (hb : FiZ b) (na : N (vz a) ≤ (Bg : Rat) * (Bg : Rat)) (nb : N (vz b) ≤ (Bg : Rat) * (Bg : Rat)) :
    FiZ (addZ a (mulZ z b)) ∧ FiZ (subZ a (mulZ z b)) ∧
    N (vz (addZ a (mulZ z b)) - (vz a + r * vz b)) + N (vz (subZ a (mulZ z b)) - (vz a - r * vz b)) ≤ 42 * (u0 * u0) * (N (vz a) + N (vz b)) + 100000 * (iU * iU) := by
  obtain ⟨ft, h1, h2, h3⟩ := root_off hr hb nb
  have hB := cast_nn Bg
  generalize ht : mulZ z b = t at *
  have a1 : ab (vr a.1) ≤ Bg := ab_of_sq hB (by have := N_re (vz a); have e : (vz a).re = vr a.1 := rfl; rw [e] at this; grind)
  have a2 : ab (vr a.2) ≤ Bg := ab_of_sq hB (by have := N_im (vz a); have e : (vz a).im = vr a.2 := rfl; rw [e] at this; grind)
  obtain ⟨g1, e1⟩ := rA ha.1 ft.1 (by have := ab_add (vr a.1) (vr t.1); grind)
  obtain ⟨g2, e2⟩ := rA ha.2 ft.2 (by have := ab_add (vr a.2) (vr t.2); grind)
  obtain ⟨g3, e3⟩ := rS ha.1 ft.1 (by have := ab_sub (vr a.1) (vr t.1); grind)
  obtain ⟨g4, e4⟩ := rS ha.2 ft.2 (by have := ab_sub (vr a.2) (vr t.2); grind)
  refine ⟨⟨g1, g2⟩, ⟨g3, g4⟩, ?_⟩
  have up := u0_pos
  have s1 : N (vz (addZ a t) - (vz a + vz t)) ≤ u0 * u0 * N (vz a + vz t) := by
    have k1 := sq_ab e1
    have k2 := sq_ab e2
    rw [show u0 * ab (vr a.1 + vr t.1) * (u0 * ab (vr a.1 + vr t.1)) = u0 * u0 * (ab (vr a.1 + vr t.1) * ab (vr a.1 + vr t.1)) by grind, ab_sq] at k1
    rw [show u0 * ab (vr a.2 + vr t.2) * (u0 * ab (vr a.2 + vr t.2)) = u0 * u0 * (ab (vr a.2 + vr t.2) * ab (vr a.2 + vr t.2)) by grind, ab_sq] at k2
    show (vr (fA a.1 t.1) - (vr a.1 + vr t.1)) * (vr (fA a.1 t.1) - (vr a.1 + vr t.1)) + (vr (fA a.2 t.2) - (vr a.2 + vr t.2)) * (vr (fA a.2 t.2) - (vr a.2 + vr t.2)) ≤ u0 * u0 * ((vr a.1 + vr t.1) * (vr a.1 + vr t.1) + (vr a.2 + vr t.2) * (vr a.2 + vr t.2))
    grind
  have s2 : N (vz (subZ a t) - (vz a - vz t)) ≤ u0 * u0 * N (vz a - vz t) := by
    have k1 := sq_ab e3
    have k2 := sq_ab e4
    rw [show u0 * ab (vr a.1 - vr t.1) * (u0 * ab (vr a.1 - vr t.1)) = u0 * u0 * (ab (vr a.1 - vr t.1) * ab (vr a.1 - vr t.1)) by grind, ab_sq] at k1
    rw [show u0 * ab (vr a.2 - vr t.2) * (u0 * ab (vr a.2 - vr t.2)) = u0 * u0 * (ab (vr a.2 - vr t.2) * ab (vr a.2 - vr t.2)) by grind, ab_sq] at k2
    show (vr (fS a.1 t.1) - (vr a.1 - vr t.1)) * (vr (fS a.1 t.1) - (vr a.1 - vr t.1)) + (vr (fS a.2 t.2) - (vr a.2 - vr t.2)) * (vr (fS a.2 t.2) - (vr a.2 - vr t.2)) ≤ u0 * u0 * ((vr a.1 - vr t.1) * (vr a.1 - vr t.1) + (vr a.2 - vr t.2) * (vr a.2 - vr t.2))
    grind
  have w1 := N_add2 (vz t - r * vz b) (vz (addZ a t) - (vz a + vz t)) (2 / 7) (7 / 2) (by grind) (by grind)
  have w2 := N_add2 (-(vz t - r * vz b)) (vz (subZ a t) - (vz a - vz t)) (2 / 7) (7 / 2) (by grind) (by grind)
  rw [show vz t - r * vz b + (vz (addZ a t) - (vz a + vz t)) = vz (addZ a t) - (vz a + r * vz b) by grind] at w1
  rw [show -(vz t - r * vz b) + (vz (subZ a t) - (vz a - vz t)) = vz (subZ a t) - (vz a - r * vz b) by grind, N_neg] at w2
  have par : N (vz a + vz t) + N (vz a - vz t) = 2 * N (vz a) + 2 * N (vz t) := by
    unfold N; rw [add_re, add_im, sub_re, sub_im]; grind
  have w3 := N_add2 (r * vz b) (vz t - r * vz b) (1 / 1000) 1000 (by grind) (by grind)
  rw [show r * vz b + (vz t - r * vz b) = vz t by grind, N_mul, hr.unit] at w3
  have uu : 0 ≤ u0 * u0 := Rat.le_of_lt (Rat.mul_pos up up)
  have uu1 : u0 * u0 ≤ 1 / 1000000000000 := by unfold u0; grind
  have ii : 0 ≤ iU * iU := Rat.le_of_lt (Rat.mul_pos iU_pos iU_pos)
  have na0 := N_nn (vz a)
  have nb0 := N_nn (vz b)
  clear ht e1 e2 e3 e4 g1 g2 g3 g4 h2 h3 a1 a2
  generalize N (vz a) = A at *
  generalize N (vz b) = B at *
  generalize N (vz t) = T at *
  generalize N (vz t - r * vz b) = D at *
  generalize N (vz (addZ a t) - (vz a + vz t)) = X1 at *
  generalize N (vz (subZ a t) - (vz a - vz t)) = X2 at *
  generalize N (vz a + vz t) = Y1 at *
  generalize N (vz a - vz t) = Y2 at *
  generalize N (vz (addZ a t) - (vz a + r * vz b)) = Z1 at *
  generalize N (vz (subZ a t) - (vz a - r * vz b)) = Z2 at *
  generalize iU * iU = I at *
  exact step_num uu uu1 ii na0 nb0 h1 s1 s2 w1 w2 par w3
end Go.Proofs.YteiggpgpkejoeaaGreatDoor.Jx
