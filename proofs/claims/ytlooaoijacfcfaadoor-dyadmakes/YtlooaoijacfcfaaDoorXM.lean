import Derived.Test.YtlooaoijacfcfaaDoorXL
namespace Go.Proofs.YtlooaoijacfcfaaDoor
open Go.RowKit
set_option linter.unusedVariables false

theorem keepG {W wo wn : World} {p q B : Nat} {a0 a1 a2 b0 b1 b2 : Value} (g : Gr wo wn) (h : (wo.cell? ⟨p, 0, none⟩ = some (a0) ∧ wo.cell? ⟨p, 1, none⟩ = some (a1) ∧ wo.cell? ⟨p, 2, none⟩ = some (a2) ∧ wo.cell? ⟨q, 0, none⟩ = some (b0) ∧ wo.cell? ⟨q, 1, none⟩ = some (b1) ∧ wo.cell? ⟨q, 2, none⟩ = some (b2)) ∧ (wo.cell? ⟨B, 0, none⟩ = some (cellV wo B 0) ∧ wo.cell? ⟨B, 1, none⟩ = some (cellV wo B 1) ∧ wo.cell? ⟨B, 2, none⟩ = some (cellV wo B 2) ∧ wo.frozen? ⟨B, 0, none⟩ = false ∧ wo.frozen? ⟨B, 1, none⟩ = false ∧ wo.frozen? ⟨B, 2, none⟩ = false) ∧ Gr W wo) :
    (wn.cell? ⟨p, 0, none⟩ = some (a0) ∧ wn.cell? ⟨p, 1, none⟩ = some (a1) ∧ wn.cell? ⟨p, 2, none⟩ = some (a2) ∧ wn.cell? ⟨q, 0, none⟩ = some (b0) ∧ wn.cell? ⟨q, 1, none⟩ = some (b1) ∧ wn.cell? ⟨q, 2, none⟩ = some (b2)) ∧ (wn.cell? ⟨B, 0, none⟩ = some (cellV wn B 0) ∧ wn.cell? ⟨B, 1, none⟩ = some (cellV wn B 1) ∧ wn.cell? ⟨B, 2, none⟩ = some (cellV wn B 2) ∧ wn.frozen? ⟨B, 0, none⟩ = false ∧ wn.frozen? ⟨B, 1, none⟩ = false ∧ wn.frozen? ⟨B, 2, none⟩ = false) ∧ Gr W wn := by
  obtain ⟨⟨h0, h1, h2, h3, h4, h5⟩, ⟨k0, k1, k2, k3, k4, k5⟩, hg⟩ := h
  exact ⟨⟨g.keep h0, g.keep h1, g.keep h2, g.keep h3, g.keep h4, g.keep h5⟩, ⟨cellV_some (g.keep k0), cellV_some (g.keep k1), cellV_some (g.keep k2), g.keepF (lt_of_cell' k0) k3, g.keepF (lt_of_cell' k1) k4, g.keepF (lt_of_cell' k2) k5⟩, hg.trans g⟩
theorem keepStG {W wo : World} {p q B : Nat} {a0 a1 a2 b0 b1 b2 v0 v1 v2 : Value} {B2 : Nat} (hB : B2 = B) (hp : B ≠ p) (hq : B ≠ q) (hW : W.heap.size ≤ B) (h : (wo.cell? ⟨p, 0, none⟩ = some (a0) ∧ wo.cell? ⟨p, 1, none⟩ = some (a1) ∧ wo.cell? ⟨p, 2, none⟩ = some (a2) ∧ wo.cell? ⟨q, 0, none⟩ = some (b0) ∧ wo.cell? ⟨q, 1, none⟩ = some (b1) ∧ wo.cell? ⟨q, 2, none⟩ = some (b2)) ∧ (wo.cell? ⟨B, 0, none⟩ = some (cellV wo B 0) ∧ wo.cell? ⟨B, 1, none⟩ = some (cellV wo B 1) ∧ wo.cell? ⟨B, 2, none⟩ = some (cellV wo B 2) ∧ wo.frozen? ⟨B, 0, none⟩ = false ∧ wo.frozen? ⟨B, 1, none⟩ = false ∧ wo.frozen? ⟨B, 2, none⟩ = false) ∧ Gr W wo) :
    ((((wo.setCell ⟨B2, 0, none⟩ v0).setCell ⟨B2, 1, none⟩ v1).setCell ⟨B2, 2, none⟩ v2).cell? ⟨p, 0, none⟩ = some (a0) ∧ (((wo.setCell ⟨B2, 0, none⟩ v0).setCell ⟨B2, 1, none⟩ v1).setCell ⟨B2, 2, none⟩ v2).cell? ⟨p, 1, none⟩ = some (a1) ∧ (((wo.setCell ⟨B2, 0, none⟩ v0).setCell ⟨B2, 1, none⟩ v1).setCell ⟨B2, 2, none⟩ v2).cell? ⟨p, 2, none⟩ = some (a2) ∧ (((wo.setCell ⟨B2, 0, none⟩ v0).setCell ⟨B2, 1, none⟩ v1).setCell ⟨B2, 2, none⟩ v2).cell? ⟨q, 0, none⟩ = some (b0) ∧ (((wo.setCell ⟨B2, 0, none⟩ v0).setCell ⟨B2, 1, none⟩ v1).setCell ⟨B2, 2, none⟩ v2).cell? ⟨q, 1, none⟩ = some (b1) ∧ (((wo.setCell ⟨B2, 0, none⟩ v0).setCell ⟨B2, 1, none⟩ v1).setCell ⟨B2, 2, none⟩ v2).cell? ⟨q, 2, none⟩ = some (b2)) ∧ ((((wo.setCell ⟨B2, 0, none⟩ v0).setCell ⟨B2, 1, none⟩ v1).setCell ⟨B2, 2, none⟩ v2).cell? ⟨B, 0, none⟩ = some (cellV (((wo.setCell ⟨B2, 0, none⟩ v0).setCell ⟨B2, 1, none⟩ v1).setCell ⟨B2, 2, none⟩ v2) B 0) ∧ (((wo.setCell ⟨B2, 0, none⟩ v0).setCell ⟨B2, 1, none⟩ v1).setCell ⟨B2, 2, none⟩ v2).cell? ⟨B, 1, none⟩ = some (cellV (((wo.setCell ⟨B2, 0, none⟩ v0).setCell ⟨B2, 1, none⟩ v1).setCell ⟨B2, 2, none⟩ v2) B 1) ∧ (((wo.setCell ⟨B2, 0, none⟩ v0).setCell ⟨B2, 1, none⟩ v1).setCell ⟨B2, 2, none⟩ v2).cell? ⟨B, 2, none⟩ = some (cellV (((wo.setCell ⟨B2, 0, none⟩ v0).setCell ⟨B2, 1, none⟩ v1).setCell ⟨B2, 2, none⟩ v2) B 2) ∧ (((wo.setCell ⟨B2, 0, none⟩ v0).setCell ⟨B2, 1, none⟩ v1).setCell ⟨B2, 2, none⟩ v2).frozen? ⟨B, 0, none⟩ = false ∧ (((wo.setCell ⟨B2, 0, none⟩ v0).setCell ⟨B2, 1, none⟩ v1).setCell ⟨B2, 2, none⟩ v2).frozen? ⟨B, 1, none⟩ = false ∧ (((wo.setCell ⟨B2, 0, none⟩ v0).setCell ⟨B2, 1, none⟩ v1).setCell ⟨B2, 2, none⟩ v2).frozen? ⟨B, 2, none⟩ = false) ∧ Gr W (((wo.setCell ⟨B2, 0, none⟩ v0).setCell ⟨B2, 1, none⟩ v1).setCell ⟨B2, 2, none⟩ v2) := by
  subst hB
  obtain ⟨⟨h0, h1, h2, h3, h4, h5⟩, ⟨k0, k1, k2, k3, k4, k5⟩, hg⟩ := h
  refine ⟨⟨set3_far hp h0, set3_far hp h1, set3_far hp h2, set3_far hq h3, set3_far hq h4, set3_far hq h5⟩, ⟨?_, ?_, ?_, by simpa using k3, by simpa using k4, by simpa using k5⟩, ((hg.setCell hW _).setCell hW _).setCell hW _⟩
  · obtain ⟨v, hv⟩ := set3_some k0
    exact cellV_some hv
  · obtain ⟨v, hv⟩ := set3_some k1
    exact cellV_some hv
  · obtain ⟨v, hv⟩ := set3_some k2
    exact cellV_some hv

/-- the unit of a product's worth -/
def PP : Int := ((2 ^ KN : Nat) : Int)
theorem PP_pos : 0 < PP := by
  unfold PP
  have := Nat.two_pow_pos KN
  omega
theorem sv_twice {s : Bool} {m : Nat} {e : Int} (h : 0 ≤ e + KK) : sv (KK + KK) s m e = sv KK s m e * PP := by
  have : m * 2 ^ (e + (KK + KK)).toNat = m * 2 ^ (e + KK).toNat * 2 ^ KN := by
    rw [Nat.mul_assoc, ← Nat.pow_add, show (e + (KK + KK)).toNat = (e + KK).toNat + KN by have : KK = (KN : Int) := rfl; omega]
  unfold sv PP
  rw [this, Int.natCast_mul]
  cases s
  · rfl
  · simp only [if_true, Int.neg_mul]
theorem sv_prod {s t : Bool} {x y : Nat} {e f : Int} (h1 : 0 ≤ e + KK) (h2 : 0 ≤ f + KK) (h3 : 0 ≤ e + f + KK) : sv KK (s != t) (x * y) (e + f) * PP = sv KK s x e * sv KK t y f := by
  rw [← sv_twice h3, sv_mul KK KK s t x y e f h1 h2]
theorem Gd.mul {lo k l : Nat} {U V Z : Int} (h1 : Gd lo k U) (h2 : Gd lo l V) (hZ : Z * PP = U * V) (hlo : lo ≤ 50000) : Gd (lo + lo) (k + l) Z := by
  obtain ⟨a, rfl, ha⟩ := h1
  obtain ⟨b, rfl, hb⟩ := h2
  refine ⟨a * b, ?_, ?_⟩
  · refine Int.eq_of_mul_eq_mul_right (Int.ne_of_gt PP_pos) ?_
    rw [hZ]
    have e1 : ((2 ^ (KN - lo) : Nat) : Int) * ((2 ^ (KN - lo) : Nat) : Int) = ((2 ^ (KN - (lo + lo)) : Nat) : Int) * PP := by
      unfold PP
      rw [← Int.natCast_mul, ← Int.natCast_mul, ← Nat.pow_add, ← Nat.pow_add, show KN - lo + (KN - lo) = KN - (lo + lo) + KN by have := KN_eq; omega]
    rw [Int.mul_assoc, Int.mul_assoc, ← e1]
    generalize ((2 ^ (KN - lo) : Nat) : Int) = p
    rw [← Int.mul_assoc p b p, Int.mul_comm p b]
    ac_rfl
  · rw [Int.natAbs_mul, Nat.pow_add]
    exact Nat.mul_lt_mul_of_lt_of_le ha (Nat.le_of_lt hb) (Nat.two_pow_pos l)
theorem DyAt.len {w : World} {s : Bool} {ad : Option Addr} {n cap x lo k : Nat} {e V : Int} (h : DyAt w s ad n cap e x) (hV : sv KK s x e = V) (hg : Gd lo k V) (hlo : lo ≤ 100000) : 64 * n ≤ k + 63 := by
  obtain ⟨xs, h1, h2⟩ := h.lim
  have h3 := len_bl h2
  rw [h1.len] at h3
  have hkk := KK_eq
  rcases h.right with ⟨rfl, _⟩ | ⟨q, rfl, e1, e2⟩
  · rw [bl_zero] at h3
    omega
  · have h4 := gd_odd (t := 0) (s := s) (q := q) (e := e) (by rw [Nat.pow_zero, Nat.one_mul]; exact hV) hg (by omega) hlo
    have h5 := bl_le_of_lt h4.2.2
    omega
end Go.Proofs.YtlooaoijacfcfaaDoor
