import Derived.Test.YtaofmkgfnhonaaaDoorDP
namespace Go.Proofs.YtaofmkgfnhonaaaDoor
open Go.RowKit
set_option linter.unusedVariables false

def E6K : Nat := 6000
theorem E6K_eq : E6K = 6000 := rfl
theorem pow_cancel {R2 p q m : Nat} (h : R2 * 2 ^ p ≤ m) (hm : m < 2 ^ q) (hq : q ≤ p + E6K) : R2 < 2 ^ E6K := by
  have : R2 * 2 ^ p < 2 ^ E6K * 2 ^ p := by
    rw [← Nat.pow_add, Nat.add_comm E6K]
    exact Nat.lt_of_lt_of_le (Nat.lt_of_le_of_lt h hm) (Nat.pow_le_pow_right (by omega) hq)
  exact Nat.lt_of_mul_lt_mul_right this
theorem R_small {w : World} {ad : Option Addr} {n c R v : Nat} {e last V : Int} (hx : DyV w false ad n c e V) (hV : V = (v : Int)) (hlo : R * R * (PL last * PL last) ≤ v * 2 ^ KN) (hL : e + 64 * (n : Int) - 2 * last ≤ 6000) (l1 : -300 ≤ last) (l2 : last ≤ 100) : R * R < 2 ^ E6K := by
  obtain ⟨x, dx, hv⟩ := hx
  have e1 := dx.low
  have hb : bl x ≤ 64 * n := by
    obtain ⟨xs, r, d⟩ := dx.lim
    have := bl_len d
    rwa [r.len] at this
  have hvv : x * 2 ^ (e + KK).toNat = v := by
    rw [hV] at hv
    unfold sv at hv
    simp only [Bool.false_eq_true, if_false] at hv
    exact Int.ofNat.inj hv
  have hkk := KK_eq
  have hkn := KN_eq
  have h6 := E6K_eq
  have hq : 64 * n + (e + KK).toNat + KN ≤ ((last + KK).toNat + (last + KK).toNat) + E6K := by omega
  generalize (e + KK).toNat = q1 at hq hvv
  have hP : PL last * PL last = 2 ^ ((last + KK).toNat + (last + KK).toNat) := by rw [Nat.pow_add]; rfl
  rw [hP] at hlo
  generalize (last + KK).toNat + (last + KK).toNat = q2 at hq hlo
  generalize KN = k at hq hlo
  refine pow_cancel hlo ?_ hq
  rw [← hvv, Nat.pow_add, Nat.pow_add]
  refine Nat.mul_lt_mul_of_pos_right (Nat.mul_lt_mul_of_pos_right ?_ (Nat.two_pow_pos _)) (Nat.two_pow_pos _)
  exact Nat.lt_of_lt_of_le (bl_lt x) (Nat.pow_le_pow_right (by omega) hb)
theorem bl_near {x R2 a b : Nat} (h : x * 2 ^ a = R2 * 2 ^ b) (hx : 0 < x) (hR : R2 < 2 ^ E6K) : bl x + a ≤ E6K + b := by
  rw [← bl_shift hx, h]
  refine bl_le_of_lt ?_
  rw [Nat.pow_add]
  exact Nat.mul_lt_mul_of_pos_right hR (Nat.two_pow_pos _)
theorem rootA {w : World} {s : Bool} {ad : Option Addr} {n c R : Nat} {e last : Int} (hA : DyV w s ad n c e (sv KK false (R * R) (last + last))) (hT : TabAt 1 Lib.deBruijn64tab w) (hR : R * R < 2 ^ E6K) (l1 : -300 ≤ last) (l2 : last ≤ 100) :
    ∀ w1, Gr w w1 → Calls Tryd.prog 7 #[.agg #[.bool s, .slice ad n c, .int .i64 e], .int .i64 last, .bool false] w1 fun r w' => ∃ s' ad' n' cap' e', r = .returned (.tuple #[.agg #[.bool s', .slice ad' n' cap', .int .i64 e'], .int .i64 0]) ∧ DyV w' s' ad' n' cap' e' (sv KK false R last) ∧ Gr w1 w' := by
  have hkk := KK_eq
  have hs : s = false := by
    cases s
    · rfl
    · have h1 := hA.sign.1 rfl
      rw [sv_PL] at h1
      exact absurd h1 (by omega)
  subst hs
  have e1 : -1048576 ≤ e := by
    obtain ⟨x, dx, _⟩ := hA
    exact dx.low
  have hB : ∀ x, sv KK false x e = sv KK false (R * R) (last + last) → x % 2 = 1 → (bl x : Int) + (e - 2 * last) ≤ 20000 := fun x hx h2 => by
    unfold sv at hx
    simp only [Bool.false_eq_true, if_false] at hx
    have h3 := bl_near (Int.ofNat.inj hx) (by omega) hR
    have h6 := E6K_eq
    omega
  obtain ⟨R', v, R2, hv, _, hlo, hhi, _, _, rt0, _⟩ := rootG ad n c e last _ w hA hT (by omega) (by omega) hB
  have hq := sv_sq R last (by omega) (by omega)
  rw [hv] at hq
  have hq' : v * 2 ^ KN = R * R * (PL last * PL last) := by
    refine Int.ofNat.inj ?_
    show ((v * 2 ^ KN : Nat) : Int) = ((R * R * (PL last * PL last) : Nat) : Int)
    rw [← hq, Int.natCast_mul]; rfl
  rw [hq'] at hlo hhi
  obtain rfl : R' = R := rt_unique (Nat.le_of_mul_le_mul_right hlo (Nat.mul_pos (PL_pos last) (PL_pos last))) (Nat.lt_of_mul_lt_mul_right hhi) (Nat.le_refl _) (Nat.mul_self_lt_mul_self (by omega))
  intro w1 g
  refine (rt0 w1 g).mono ?_
  rintro r w' ⟨s', ad', n', cap', e', h1, h2, _, h3⟩
  exact ⟨s', ad', n', cap', e', h1, h2, h3⟩
theorem root_back {w wL : World} {s sL : Bool} {ad aL : Option Addr} {n c nL cL R : Nat} {e eL last : Int} (hL : DyV wL sL aL nL cL eL (sv KK false R last)) (lL : nL = 0 ∨ last ≤ eL) (hA : DyV w s ad n c e (sv KK false (R * R) (last + last))) (hT : TabAt 1 Lib.deBruijn64tab w) (hR : R * R < 2 ^ E6K) (l1 : -300 ≤ last) (l2 : last ≤ 100) :
    ∀ w1, Gr w w1 → Calls Tryd.prog 7 #[.agg #[.bool s, .slice ad n c, .int .i64 e], .int .i64 (min last eL), .bool false] w1 fun r w' => ∃ s' ad' n' cap' e', r = .returned (.tuple #[.agg #[.bool s', .slice ad' n' cap', .int .i64 e'], .int .i64 0]) ∧ DyV w' s' ad' n' cap' e' (sv KK false R last) ∧ Gr w1 w' := by
  by_cases hn : nL = 0
  · have h0 := hL.sign.2.2.1.1 hn
    have hR0 : R = 0 := by
      rw [sv_PL] at h0
      have h1 : R * PL last = 0 := Int.ofNat.inj h0
      rcases Nat.mul_eq_zero.1 h1 with h | h
      · exact h
      · exact absurd h (Nat.ne_of_gt (PL_pos last))
    subst hR0
    have he : eL = 0 := by
      obtain ⟨x, dx, hx⟩ := hL
      have x0 : x = 0 := by
        obtain ⟨xs, r, d⟩ := dx.lim
        exact (d.zero_iff (by omega)).1 (by rw [r.len]; exact hn)
      rcases dx.right with ⟨_, _, h⟩ | ⟨q, h, _⟩
      · exact h
      · omega
    subst he
    have z : ∀ a : Int, sv KK false 0 a = 0 := fun a => by rw [sv_PL, Nat.zero_mul]; rfl
    rw [Nat.zero_mul, z] at hA
    rw [z]
    have := rootA (R := 0) (last := min last 0) (by rw [Nat.zero_mul, z]; exact hA) hT hR (by omega) (by omega)
    rw [z] at this
    exact this
  · have h2 : last ≤ eL := by omega
    rw [Int.min_eq_left h2]
    exact rootA hA hT hR l1 l2
end Go.Proofs.YtaofmkgfnhonaaaDoor
