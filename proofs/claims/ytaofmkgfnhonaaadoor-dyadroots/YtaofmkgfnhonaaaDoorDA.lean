import Derived.Test.YtaofmkgfnhonaaaDoorNa
namespace Go.Proofs.YtaofmkgfnhonaaaDoor
set_option linter.unusedVariables false

/-! DIVISION: one digit, guessed and set right -/
theorem dig_out {q r y1 y0 u u0 : Nat} (h : q * y1 + r = u) (hq : (u * 4294967296 + u0) / (y1 * 4294967296 + y0) ≤ q) (hy : 0 < y1) (hc : q * y0 ≤ 4294967296 * r + u0) : q = (u * 4294967296 + u0) / (y1 * 4294967296 + y0) := by
  refine Nat.le_antisymm ((Nat.le_div_iff_mul_le (by omega)).2 ?_) hq
  rw [Nat.mul_add, ← Nat.mul_assoc, ← h]
  generalize q * y1 = A at *
  generalize q * y0 = C at *
  omega
theorem dig_more {q r y1 y0 u u0 : Nat} (h : q * y1 + r = u) (hy : 0 < y1) (hlt : u < y1 * 4294967296 + y0) (h0 : u0 < 4294967296) (hc : 4294967296 ≤ q ∨ 4294967296 * r + u0 < q * y0) : (u * 4294967296 + u0) / (y1 * 4294967296 + y0) < q := by
  refine (Nat.div_lt_iff_lt_mul (by omega)).2 ?_
  rcases hc with hc | hc
  · have := Nat.mul_le_mul hc hlt
    generalize q * (y1 * 4294967296 + y0) = A at *
    omega
  · rw [Nat.mul_add, ← Nat.mul_assoc, ← h]
    generalize q * y1 = A at *
    generalize q * y0 = C at *
    omega
theorem dig_break {q r y1 y0 u u0 : Nat} (h : q * y1 + r = u) (hq : (u * 4294967296 + u0) / (y1 * 4294967296 + y0) ≤ q) (hy : 0 < y1) (hb : q ≤ 4294967296) (hr : 4294967296 ≤ r) (h0 : y0 < 4294967296) : q = (u * 4294967296 + u0) / (y1 * 4294967296 + y0) := by
  refine dig_out h hq hy ?_
  have := Nat.mul_le_mul hb (show y0 ≤ 4294967295 by omega)
  omega
theorem dig_first {u y1 y0 : Nat} (h1 : 2147483648 ≤ y1) (h0 : y0 < 4294967296) (hu : u < y1 * 4294967296 + y0) : u / y1 ≤ 4294967297 := by
  have h2 : 0 < y1 := by omega
  have : u / y1 < 4294967298 := (Nat.div_lt_iff_lt_mul h2).2 (by omega)
  omega
theorem dig_start {u u0 y1 y0 : Nat} (h1 : 0 < y1) (h0 : u0 < 4294967296) : (u * 4294967296 + u0) / (y1 * 4294967296 + y0) ≤ u / y1 := by
  have h2 : (u * 4294967296 + u0) / (y1 * 4294967296 + y0) ≤ (u * 4294967296 + u0) / (y1 * 4294967296) := Nat.div_le_div_left (by omega) (by omega)
  rw [Nat.mul_comm y1 4294967296] at h2 ⊢
  rw [← Nat.div_div_eq_div_mul, show (u * 4294967296 + u0) / 4294967296 = u by omega] at h2
  exact h2
/-- both digits -/
theorem div_whole {N y s H u1 u0 q1 r1 q0 r0 : Nat} (hN : N * 2 ^ s = (H * 4294967296 + u1) * 4294967296 + u0) (y0 : 0 < y) (h1 : q1 = (H * 4294967296 + u1) / (y * 2 ^ s)) (h2 : r1 = (H * 4294967296 + u1) % (y * 2 ^ s)) (h3 : q0 = (r1 * 4294967296 + u0) / (y * 2 ^ s)) (h4 : r0 = (r1 * 4294967296 + u0) % (y * 2 ^ s)) :
    q1 * 4294967296 + q0 = N / y ∧ r0 / 2 ^ s = N % y := by
  have hs : 0 < 2 ^ s := Nat.two_pow_pos s
  have hY : 0 < y * 2 ^ s := Nat.mul_pos y0 hs
  have e1 := Nat.div_add_mod (H * 4294967296 + u1) (y * 2 ^ s)
  have e2 := Nat.div_add_mod (r1 * 4294967296 + u0) (y * 2 ^ s)
  rw [← h1, ← h2] at e1
  rw [← h3, ← h4] at e2
  have l2 : r0 < y * 2 ^ s := h4 ▸ Nat.mod_lt _ hY
  have key : N * 2 ^ s = ((q1 * 4294967296 + q0) * y) * 2 ^ s + r0 := by
    rw [hN, ← e1]
    have : (q1 * 4294967296 + q0) * y * 2 ^ s = y * 2 ^ s * q1 * 4294967296 + y * 2 ^ s * q0 := by
      rw [Nat.mul_assoc, Nat.add_mul, Nat.mul_comm q0, Nat.mul_right_comm, Nat.mul_comm q1]
    rw [this]
    generalize y * 2 ^ s * q1 = A at *
    generalize y * 2 ^ s * q0 = C at *
    omega
  clear e1 e2 h1 h2 h3 h4 hN
  obtain ⟨Q, hQ⟩ : ∃ Q, Q = q1 * 4294967296 + q0 := ⟨_, rfl⟩
  rw [← hQ] at key ⊢
  clear hQ
  have hle : Q * y ≤ N := by
    refine Nat.le_of_mul_le_mul_right (c := 2 ^ s) ?_ hs
    omega
  obtain ⟨R, rfl⟩ := Nat.exists_eq_add_of_le hle
  have e3 : r0 = R * 2 ^ s := by rw [Nat.add_mul] at key; omega
  have e4 : R < y := by
    rw [e3] at l2
    exact Nat.lt_of_mul_lt_mul_right l2
  constructor
  · rw [Nat.mul_comm, Nat.mul_add_div y0, Nat.div_eq_of_lt e4, Nat.add_zero]
  · rw [e3, Nat.mul_div_cancel _ hs, Nat.mul_comm, Nat.mul_add_mod, Nat.mod_eq_of_lt e4]
/-- the shifted number's upper half: no bit is lost -/
theorem norm_lt {y : Nat} (h : y < 18446744073709551616) (h0 : 0 < y) : y * 2 ^ (64 - bl y) < 18446744073709551616 ∧ 9223372036854775808 ≤ y * 2 ^ (64 - bl y) := by
  have hb : bl y ≤ 64 := bl_le_of_lt h
  have e : (2 : Nat) ^ bl y * 2 ^ (64 - bl y) = 18446744073709551616 := by rw [← Nat.pow_add, show bl y + (64 - bl y) = 64 by omega]
  have h1 : y * 2 ^ (64 - bl y) < 2 ^ bl y * 2 ^ (64 - bl y) := Nat.mul_lt_mul_of_pos_right (bl_lt y) (Nat.two_pow_pos _)
  have h2 : 2 ^ bl y * 2 ^ (64 - bl y) ≤ 2 * y * 2 ^ (64 - bl y) := Nat.mul_le_mul_right _ (bl_le h0)
  rw [Nat.mul_assoc] at h2
  generalize y * 2 ^ (64 - bl y) = A at *
  generalize 2 ^ bl y * 2 ^ (64 - bl y) = C at *
  omega

/-! rows of digits -/
theorem nv_drop_at (B : Nat) {xs : List Nat} {i : Nat} (h : i < xs.length) : nv B (xs.drop i) = xs.getD i 0 + B * nv B (xs.drop (i + 1)) := by
  rw [List.drop_eq_getElem_cons h, nv, List.getD_eq_getElem?_getD, List.getElem?_eq_getElem h]
  rfl
theorem nv_drop_set (B : Nat) {zs : List Nat} {i v : Nat} (h : i < zs.length) : nv B ((zs.set i v).drop i) = v + B * nv B (zs.drop (i + 1)) := by
  rw [nv_drop_at B (by rw [List.length_set]; exact h)]
  congr 1
  · rw [List.getD_eq_getElem?_getD, List.getElem?_set_self h]; rfl
  · rw [List.drop_set_of_lt (by omega)]
theorem sq_step {B d X x : Nat} (hd : 0 < d) : (x + B * X) / d = (X % d * B + x) / d + B * (X / d) ∧ (x + B * X) % d = (X % d * B + x) % d := by
  have e : x + B * X = (X % d * B + x) + d * (B * (X / d)) := by
    have := Nat.div_add_mod X d
    calc x + B * X = x + B * (d * (X / d) + X % d) := by rw [this]
      _ = _ := by rw [Nat.mul_add, Nat.mul_left_comm, Nat.mul_comm B (X % d)]; omega
  constructor
  · rw [e, Nat.add_mul_div_left _ _ hd]
  · rw [e, Nat.add_mul_mod_self_left]
theorem sq_lt {B d r x : Nat} (hr : r < d) (hx : x < B) : (r * B + x) / d < B := by
  refine (Nat.div_lt_iff_lt_mul (by omega)).2 ?_
  have := Nat.mul_le_mul_right B (show r + 1 ≤ d by omega)
  rw [Nat.add_mul, Nat.one_mul, Nat.mul_comm d] at this
  omega
theorem nv_ge (B : Nat) {xs : List Nat} {i : Nat} (h : i < xs.length) : B ^ i * xs.getD i 0 ≤ nv B xs := by
  have h1 := nv_take_succ B xs i
  have h2 := nv_append B (xs.take (i + 1)) (xs.drop (i + 1))
  rw [List.take_append_drop] at h2
  omega
theorem upper_zero {B m : Nat} (hB : 0 < B) {xs : List Nat} (h : nv B xs < B ^ m) (i : Nat) (hi : m ≤ i) : xs.getD i 0 = 0 := by
  by_cases hl : i < xs.length
  · refine Nat.eq_zero_of_not_pos fun hp => ?_
    have h1 := nv_ge B hl
    have h2 : B ^ m ≤ B ^ i := Nat.pow_le_pow_right hB hi
    have h3 : B ^ i * 1 ≤ B ^ i * xs.getD i 0 := Nat.mul_le_mul_left _ hp
    omega
  · rw [List.getD_eq_getElem?_getD, List.getElem?_eq_none (by omega)]; rfl
theorem upper_lt {B m : Nat} {xs : List Nat} (hx : ∀ x ∈ xs, x < B) (h : ∀ i, m ≤ i → xs.getD i 0 = 0) (hm : m ≤ xs.length) : nv B xs < B ^ m := by
  rw [← nv_take_zeros B xs m (fun i h1 _ => h i h1)]
  have := nv_lt B (xs.take m) (fun x hx' => hx x (List.mem_of_mem_take hx'))
  rwa [List.length_take, Nat.min_eq_left hm] at this
end Go.Proofs.YtaofmkgfnhonaaaDoor
