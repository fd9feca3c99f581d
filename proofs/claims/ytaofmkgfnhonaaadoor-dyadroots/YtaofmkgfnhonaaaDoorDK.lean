import Derived.Test.YtaofmkgfnhonaaaDoorDJ
namespace Go.Proofs.YtaofmkgfnhonaaaDoor
open Go.RowKit
set_option linter.unusedVariables false

theorem lim_le {w w' : World} {ad ad' : Option Addr} {n n' cap cap' x y : Nat} (h : Lim w ad n cap 18446744073709551616 x) (h' : Lim w' ad' n' cap' 18446744073709551616 y) (hxy : x ≤ y) : n ≤ n' := by
  obtain ⟨xs, r, d⟩ := h
  obtain ⟨ys, r', d'⟩ := h'
  rw [← r.len, ← r'.len]
  exact d.len_le (by omega) d' hxy
theorem lim_lt {w w' : World} {ad ad' : Option Addr} {n n' cap cap' x y : Nat} (h : Lim w ad n cap 18446744073709551616 x) (h' : Lim w' ad' n' cap' 18446744073709551616 y) (hn : n < n') : x < y := by
  obtain ⟨xs, r, d⟩ := h
  obtain ⟨ys, r', d'⟩ := h'
  exact d.lt_of_len (by omega) d' (by rw [r.len, r'.len]; exact hn)
theorem lim_nil (w : World) : Lim w none 0 0 18446744073709551616 0 := ⟨[], Row.empty (by omega) (fun _ => rfl), Dg.nil⟩
set_option maxHeartbeats 800000 in
theorem quot1 (ad1 ad2 : Option Addr) (n1 c1 c2 x y : Nat) (w : World) (hx : Lim w ad1 n1 c1 18446744073709551616 x) (hy : Lim w ad2 1 c2 18446744073709551616 y) (y0 : 0 < y) (hn : 1 ≤ n1) (b1 : n1 ≤ 1099511627776) :
    Calls Tryd.prog 36 #[.slice ad1 n1 c1, .slice ad2 1 c2] w fun e w' => ∃ ad' n' cap', e = .returned (.slice ad' n' cap') ∧ n' ≤ n1 ∧ Lim w' ad' n' cap' 18446744073709551616 (x / y) ∧ Gr w w' := by
  obtain ⟨ys, ry, dy⟩ := hy
  obtain ⟨v, rfl⟩ : ∃ v, ys = [v] := by
    have := ry.len
    match ys, this with
    | [v], _ => exact ⟨v, rfl⟩
  have hv : v = y := by have := dy.1; simpa [nv] using this
  subst hv
  have bv : v < 18446744073709551616 := dy.2.1 v (by simp)
  obtain ⟨p1, o1, rfl, hp1, hc1⟩ := ry.cells (by omega)
  have hc0 := hc1 0 (by omega)
  simp at hc0
  clear ry dy hc1
  have H78 : Hid (Calls Tryd.prog 53 #[.slice ad1 n1 c1, .int .u64 (v : Int)] w fun e w' => ∃ ad' n' cap', e = .returned (.slice ad' n' cap') ∧ n' ≤ n1 ∧ Lim w' ad' n' cap' 18446744073709551616 (x / v) ∧ Gr w w') := shortQN ad1 n1 c1 x v w hx y0 bv b1
  clear hx
  have hn' : ¬ (n1 : Int) < 1 := by omega
  go_enter Tryd.func36, Tryd.ntmps36
  go_wp2_with (go_at_call 53; (with_reducible refine H78.out.mono ?_); rintro r w3 ⟨a3, n3, c3, rfl, hn3, hl3, g3⟩)
  go_ret
  exact ⟨_, _, _, rfl, hn3, hl3, g3⟩
theorem quotN (ad1 ad2 : Option Addr) (n1 n2 c1 c2 x y : Nat) (w : World) (hx : Lim w ad1 n1 c1 18446744073709551616 x) (hy : Lim w ad2 n2 c2 18446744073709551616 y) (y0 : 0 < y) (b1 : n1 ≤ 1099511627776) (b2 : n2 ≤ 1099511627776) :
    Calls Tryd.prog 36 #[.slice ad1 n1 c1, .slice ad2 n2 c2] w fun e w' => ∃ ad' n' cap', e = .returned (.slice ad' n' cap') ∧ n' ≤ n1 ∧ Lim w' ad' n' cap' 18446744073709551616 (x / y) ∧ Gr w w' := by
  obtain ⟨k, rfl⟩ := lim_pos hy y0
  by_cases hlt : n1 < k + 1
  · have hxy := lim_lt hx hy hlt
    have hlt' : (n1 : Int) < (k : Int) + 1 := by omega
    rw [Nat.div_eq_of_lt hxy]
    clear hx hy
    go_enter Tryd.func36, Tryd.ntmps36
    go_wp2
    go_ret
    exact ⟨_, _, _, rfl, Nat.zero_le _, lim_nil _, Gr.refl _⟩
  · rcases Nat.eq_zero_or_pos k with rfl | hk
    · exact quot1 ad1 ad2 n1 c1 c2 x y w hx hy y0 (by omega) b1
    · exact quotL ad1 ad2 n1 c1 c2 x y k (k - 1) (n1 - (k + 1)) w hx hy (by omega) (by omega) b1 y0
/-- the root of the upper bits, less than 1 off -/
structure RtAt (M half have' r : Nat) : Prop where
  below : (r - 1) * (r - 1) * 2 ^ (2 * (half - have')) < M
  above : M < (r + 1) * (r + 1) * 2 ^ (2 * (half - have'))
  le : have' ≤ half
theorem sq_lt_sq {a b : Nat} (h : a * a < b * b) : a < b := by
  refine Nat.lt_of_not_le fun hle => ?_
  have := Nat.mul_le_mul hle hle
  omega
theorem RtAt.low {M half h r : Nat} (a : RtAt M half h r) (hM : 2 ^ (2 * half) ≤ M) : 2 ^ h ≤ r := by
  have h1 := Nat.lt_of_le_of_lt hM a.above
  have h2 : 2 ^ (2 * half) = 2 ^ h * 2 ^ h * 2 ^ (2 * (half - h)) := by
    rw [← Nat.pow_add, ← Nat.pow_add]; congr 1; have := a.le; omega
  rw [h2] at h1
  have := sq_lt_sq (Nat.lt_of_mul_lt_mul_right h1)
  omega
theorem RtAt.start {M half : Nat} (h1 : 0 < M) (h2 : M < 2 ^ (2 * half + 2)) : RtAt M half 0 1 := by
  refine ⟨by simpa using h1, ?_, Nat.zero_le _⟩
  rw [Nat.pow_add] at h2
  rw [Nat.sub_zero]
  omega
theorem RtAt.leM {M half h r : Nat} (a : RtAt M half h r) : r ≤ M := by
  have h1 := a.below
  have h2 : (r - 1) * 1 ≤ (r - 1) * 2 ^ (2 * (half - h)) := Nat.mul_le_mul_left _ (Nat.two_pow_pos _)
  rcases Nat.lt_or_ge (r - 1) 1 with h3 | h3
  · have : 0 < M := Nat.lt_of_le_of_lt (Nat.zero_le _) h1
    omega
  · have h4 : 1 * ((r - 1) * 2 ^ (2 * (half - h))) ≤ (r - 1) * ((r - 1) * 2 ^ (2 * (half - h))) := Nat.mul_le_mul_right _ h3
    rw [← Nat.mul_assoc (r - 1)] at h4
    omega
theorem RtAt.next {M half h r w d t : Nat} (a : RtAt M half h r) (hM : 2 ^ (2 * half) ≤ M) (hw : w ≤ half) (hd : w = h + d + 1) (hdh : d ≤ h) (ht : t + h + w = 2 * half + 1) : RtAt M half w (r * 2 ^ d + M / 2 ^ t / r) := by
  have hlow := a.low hM
  have hr : 0 < r := Nat.lt_of_lt_of_le (Nat.two_pow_pos h) hlow
  have hK : 2 ^ d ≤ r := Nat.le_trans (Nat.pow_le_pow_right (by omega) hdh) hlow
  have e1 : 2 ^ (2 * (half - w)) * (4 * (2 ^ d * 2 ^ d)) = 2 ^ (2 * (half - h)) := by
    rw [show (4 : Nat) = 2 ^ 2 from rfl, ← Nat.pow_add, ← Nat.pow_add, ← Nat.pow_add]; congr 1; omega
  have e2 : 2 ^ (2 * (half - w)) * (4 * 2 ^ d) = 2 ^ t := by
    rw [show (4 : Nat) = 2 ^ 2 from rfl, ← Nat.pow_add, ← Nat.pow_add]; congr 1; omega
  have hP : 0 < 2 ^ t * r := Nat.mul_pos (Nat.two_pow_pos t) hr
  have q1 : M / 2 ^ t / r * (2 ^ (2 * (half - w)) * (4 * 2 ^ d) * r) ≤ M := by
    rw [e2, Nat.div_div_eq_div_mul]; exact Nat.div_mul_le_self _ _
  have q2 : M < (M / 2 ^ t / r + 1) * (2 ^ (2 * (half - w)) * (4 * 2 ^ d) * r) := by
    rw [e2, Nat.div_div_eq_div_mul, Nat.add_mul, Nat.one_mul]; exact Nat.lt_div_mul_add hP
  have A := root_above q2
  have B := root_below (Nat.two_pow_pos _) hK (Nat.two_pow_pos _) q1 (by rw [e1]; exact a.below) (by rw [e1]; exact a.above)
  rw [Nat.mul_comm (2 ^ d) r] at A B
  exact ⟨B, A, hw⟩
end Go.Proofs.YtaofmkgfnhonaaaDoor
