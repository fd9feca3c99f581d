import Derived.Test.YteiggpgpkejoeaaGreatDoorM09
import Derived.Test.YteiggpgpkejoeaaGreatDoorM05
namespace Go.Proofs.YteiggpgpkejoeaaGreatDoor
set_option linter.unusedVariables false

/-! the guess by three limbs against two is never too small -/
theorem three_le {B P U V a b : Nat} (hP : 0 < P) (hU : U < (a + 1) * P) (hV : b * P ≤ V) (hb : 0 < b) : U / V ≤ a / b := by
  have hV0 : 0 < V := Nat.lt_of_lt_of_le (Nat.mul_pos hb hP) hV
  refine Nat.le_of_lt_succ ((Nat.div_lt_iff_lt_mul hV0).2 ?_)
  have h1 : a < (a / b + 1) * b := by
    have := Nat.lt_div_mul_add (a := a) hb
    rw [Nat.add_mul, Nat.one_mul]; exact this
  have h2 : (a + 1) * P ≤ (a / b + 1) * b * P := Nat.mul_le_mul_right _ h1
  rw [Nat.mul_assoc] at h2
  have h3 : (a / b + 1) * (b * P) ≤ (a / b + 1) * V := Nat.mul_le_mul_left _ hV
  exact Nat.lt_of_lt_of_le hU (Nat.le_trans h2 h3)
theorem guess_start {B p2 p1 p0 v1 v0 : Nat} (hv : 0 < v1) (h0 : p0 < B) (hB : 0 < B) : ((p2 * B + p1) * B + p0) / (v1 * B + v0) ≤ (p2 * B + p1) / v1 := by
  have h2 : ((p2 * B + p1) * B + p0) / (v1 * B + v0) ≤ ((p2 * B + p1) * B + p0) / (v1 * B) := Nat.div_le_div_left (by omega) (Nat.mul_pos hv hB)
  rw [Nat.mul_comm v1 B, ← Nat.div_div_eq_div_mul, Nat.mul_comm (p2 * B + p1) B, Nat.mul_add_div hB, Nat.div_eq_of_lt h0, Nat.add_zero, Nat.mul_comm B v1, Nat.mul_comm B (p2 * B + p1)] at h2
  exact h2
theorem guess_more {B p2 p1 p0 v1 v0 x r : Nat} (h : x * v1 + r = p2 * B + p1) (hpos : 0 < v1 * B + v0) (hc : r * B + p0 < x * v0) : ((p2 * B + p1) * B + p0) / (v1 * B + v0) < x := by
  refine (Nat.div_lt_iff_lt_mul hpos).2 ?_
  rw [← h, Nat.mul_add, Nat.add_mul, ← Nat.mul_assoc]
  generalize x * v1 * B = A at *
  generalize x * v0 = C at *
  generalize r * B = D at *
  omega
/-! what nextLimb leaves -/
theorem limb_done {P R0 V x Z : Nat} (hP : 0 < P) (hV : 0 < V) (h : Z + P * (x * V) = R0) (hx : R0 / P / V ≤ x) : x = R0 / P / V ∧ Z < P * V := by
  have h1 : x * V ≤ R0 / P := (Nat.le_div_iff_mul_le hP).2 (by rw [Nat.mul_comm]; omega)
  have h2 : x ≤ R0 / P / V := (Nat.le_div_iff_mul_le hV).2 h1
  have h3 : x = R0 / P / V := Nat.le_antisymm h2 hx
  refine ⟨h3, ?_⟩
  have h4 : R0 / P < (x + 1) * V := by
    have := Nat.lt_div_mul_add (a := R0 / P) hV
    rw [← h3] at this
    rw [Nat.add_mul, Nat.one_mul]; exact this
  have h5 : R0 < P * ((x + 1) * V) := by
    have := Nat.lt_div_mul_add (a := R0) hP
    have h6 : P * (R0 / P + 1) ≤ P * ((x + 1) * V) := Nat.mul_le_mul_left _ h4
    rw [Nat.mul_add, Nat.mul_one, Nat.mul_comm P (R0 / P)] at h6
    omega
  rw [Nat.add_mul, Nat.one_mul, Nat.mul_add] at h5
  omega
theorem limb_less {P Q R0 V x Z : Nat} (hP : 0 < P) (hV : 0 < V) (hZ : Z < Q) (h : Z + P * (x * V) = R0 + Q) : R0 / P / V < x := by
  refine (Nat.div_lt_iff_lt_mul hV).2 ((Nat.div_lt_iff_lt_mul hP).2 ?_)
  rw [Nat.mul_comm (x * V)]
  omega
/-! THE ROOT: each round -/
theorem am_gm (X Y : Nat) : 4 * (X * Y) ≤ (X + Y) * (X + Y) := by
  rcases Nat.le_total X Y with h | h
  · obtain ⟨d, rfl⟩ := Nat.exists_eq_add_of_le h
    have : (X + (X + d)) * (X + (X + d)) = 4 * (X * (X + d)) + d * d := by
      simp only [Nat.mul_add, Nat.add_mul, Nat.mul_comm d X]
      omega
    omega
  · obtain ⟨d, rfl⟩ := Nat.exists_eq_add_of_le h
    have : (Y + d + Y) * (Y + d + Y) = 4 * ((Y + d) * Y) + d * d := by
      simp only [Nat.mul_add, Nat.add_mul, Nat.mul_comm d Y]
      omega
    omega
/-- S: 2^s; K: 2^k; the new root is less than 1 off -/
theorem root_above {S K a n q : Nat} (hq : n < (q + 1) * (S * (4 * K) * a)) : n < (K * a + q + 1) * (K * a + q + 1) * S := by
  have h := am_gm (K * a) (q + 1)
  rw [← Nat.add_assoc] at h
  have h2 := Nat.mul_le_mul_right S h
  have e : (q + 1) * (S * (4 * K) * a) = 4 * (K * a * (q + 1)) * S := by
    ac_rfl
  rw [e] at hq
  omega
theorem root_below {S K a n q : Nat} (hS : 0 < S) (hK : K ≤ a) (hK0 : 0 < K) (hq : q * (S * (4 * K) * a) ≤ n) (h1 : (a - 1) * (a - 1) * (S * (4 * (K * K))) < n) (h2 : n < (a + 1) * (a + 1) * (S * (4 * (K * K)))) : (K * a + q - 1) * (K * a + q - 1) * S < n := by
  have ha : 0 < a := by omega
  have hKa : 0 < K * a := Nat.mul_pos hK0 ha
  refine Nat.lt_of_not_le fun hn => ?_
  obtain ⟨Z, hZ⟩ : ∃ Z, Z + 1 = K * a + q := ⟨K * a + q - 1, by omega⟩
  rw [show K * a + q - 1 = Z by omega] at hn
  obtain ⟨c, rfl⟩ : ∃ c, a = c + 1 := ⟨a - 1, by omega⟩
  rw [Nat.add_sub_cancel] at h1
  -- q 4K a ≤ Z Z
  have e1 : q * (4 * K * (c + 1)) ≤ Z * Z := by
    refine Nat.le_of_mul_le_mul_right (c := S) ?_ hS
    have : q * (4 * K * (c + 1)) * S = q * (S * (4 * K) * (c + 1)) := by ac_rfl
    omega
  -- Z is between 2 K c and 2 K (a + 1)
  have e2 : 2 * K * c < Z := by
    refine Nat.lt_of_not_le fun hle => ?_
    have g1 := Nat.mul_le_mul_right S (Nat.mul_le_mul hle hle)
    have g2 : 2 * K * c * (2 * K * c) * S = c * c * (S * (4 * (K * K))) := by
      have : (4 : Nat) = 2 * 2 := rfl
      rw [this]; ac_rfl
    omega
  have e3 : q * (c + 1) < (c + 1 + 1) * (c + 1 + 1) * K := by
    have g : 0 < S * (4 * K) := Nat.mul_pos hS (by omega)
    refine Nat.lt_of_mul_lt_mul_right (a := S * (4 * K)) ?_
    have g1 : q * (c + 1) * (S * (4 * K)) = q * (S * (4 * K) * (c + 1)) := by ac_rfl
    have g2 : (c + 1 + 1) * (c + 1 + 1) * K * (S * (4 * K)) = (c + 1 + 1) * (c + 1 + 1) * (S * (4 * (K * K))) := by ac_rfl
    omega
  have e4 : Z < 2 * K * (c + 1 + 1) := by
    refine Nat.lt_of_not_le fun hle => ?_
    have g1 : K * (c + 1) + 2 * K + 1 ≤ q := by
      have : 2 * K * (c + 1 + 1) = K * (c + 1) + K * (c + 1) + 2 * K := by
        simp only [Nat.mul_add, Nat.mul_assoc, Nat.mul_one]; omega
      omega
    have g2 := Nat.mul_le_mul_right (c + 1) g1
    have g3 : (K * (c + 1) + 2 * K + 1) * (c + 1) + K = (c + 1 + 1) * (c + 1 + 1) * K + (c + 1) := by
      generalize c + 1 = a
      have f1 : K * a * a = a * a * K := by ac_rfl
      have f2 : a * K = K * a := Nat.mul_comm _ _
      simp only [Nat.two_mul, Nat.add_mul, Nat.mul_add, Nat.mul_one, Nat.one_mul, f1, f2]
      omega
    omega
  -- the square of 2 K a against Z
  have e5 : (Z + 1) * (4 * K * (c + 1)) = 2 * K * (c + 1) * (2 * K * (c + 1)) + q * (4 * K * (c + 1)) := by
    rw [hZ, Nat.add_mul]
    congr 1
    have : (4 : Nat) = 2 * 2 := rfl
    rw [this]; ac_rfl
  have e6 : 4 * K * (c + 1) ≥ 2 * K * (2 * K) := by
    have g1 := Nat.mul_le_mul_left (4 * K) hK
    have g2 : 4 * K * K = 2 * K * (2 * K) := by
      have : (4 : Nat) = 2 * 2 := rfl
      rw [this]; ac_rfl
    omega
  -- with T = 2 K a, D = 2 K: |T - Z| < D, yet (T - Z)² ≥ D D
  have e7 : 4 * K * (c + 1) = 2 * (2 * K * (c + 1)) := by simp only [Nat.mul_assoc]; omega
  have e8 : 2 * K * (c + 1) = 2 * K * c + 2 * K := by rw [Nat.mul_add, Nat.mul_one]
  have e9 : 2 * K * (c + 1 + 1) = 2 * K * (c + 1) + 2 * K := by rw [Nat.mul_add (2 * K) (c + 1) 1, Nat.mul_one]
  rw [e7] at e5 e6 e1
  generalize 2 * K * (c + 1) = T at *
  generalize 2 * K * c = T0 at *
  generalize 2 * K = D at *
  rw [Nat.add_mul, Nat.one_mul] at e5
  rcases Nat.le_total T Z with h | h
  · obtain ⟨d, rfl⟩ := Nat.exists_eq_add_of_le h
    have hd : d < D := by omega
    have g1 : d * d < D * D := Nat.mul_lt_mul'' hd hd
    have g2 : (T + d) * (2 * T) = T * T + T * T + (T * d + T * d) := by simp only [Nat.mul_add, Nat.add_mul, Nat.two_mul, Nat.mul_comm d T]; omega
    have g3 : (T + d) * (T + d) = T * T + (T * d + T * d) + d * d := by simp only [Nat.mul_add, Nat.add_mul, Nat.mul_comm d T]; omega
    generalize T * T = A at *
    generalize T * d = C at *
    generalize d * d = E at *
    generalize D * D = F at *
    generalize q * (2 * T) = G at *
    omega
  · obtain ⟨d, rfl⟩ := Nat.exists_eq_add_of_le h
    have hd : d < D := by omega
    have g1 : d * d < D * D := Nat.mul_lt_mul'' hd hd
    have g2 : Z * (2 * (Z + d)) = Z * Z + Z * Z + (Z * d + Z * d) := by simp only [Nat.mul_add, Nat.two_mul]
    have g3 : (Z + d) * (Z + d) = Z * Z + (Z * d + Z * d) + d * d := by simp only [Nat.mul_add, Nat.add_mul, Nat.mul_comm d Z]; omega
    generalize Z * Z = A at *
    generalize Z * d = C at *
    generalize d * d = E at *
    generalize D * D = F at *
    generalize q * (2 * (Z + d)) = G at *
    omega
end Go.Proofs.YteiggpgpkejoeaaGreatDoor
namespace Go.Proofs.YteiggpgpkejoeaaGreatDoor
open Go.RowKit
set_option linter.unusedVariables false

/-- all but one block is as it was -/
structure Gx (g : Nat) (w w' : World) : Prop where
  os : w'.os = w.os
  output : w'.output = w.output
  size : w.heap.size ≤ w'.heap.size
  block : ∀ k, k < w.heap.size → k ≠ g → w'.heap[k]? = w.heap[k]?
theorem Gx.refl (g : Nat) (w : World) : Gx g w w := ⟨rfl, rfl, Nat.le_refl _, fun _ _ _ => rfl⟩
theorem Gx.trans {g : Nat} {a b c : World} (h : Gx g a b) (k : Gx g b c) : Gx g a c :=
  ⟨k.os.trans h.os, k.output.trans h.output, Nat.le_trans h.size k.size, fun i hi hn => (k.block i (Nat.lt_of_lt_of_le hi h.size) hn).trans (h.block i hi hn)⟩
theorem Gx.of_gr {g : Nat} {w w' : World} (h : Gr w w') : Gx g w w' := ⟨h.os, h.output, h.size, fun k hk _ => h.block k hk⟩
theorem Gx.setCell {g : Nat} {a w : World} (h : Gx g a w) {p : Addr} (hp : p.block = g) (u : Value) : Gx g a (w.setCell p u) :=
  ⟨h.os, h.output, by simpa [World.setCell] using h.size, fun k hk hn => (Below.heap_setCell _ _ _ _ (by omega)).trans (h.block k hk hn)⟩
theorem Gx.owns {g : Nat} {w w' : World} (h : Gx g w w') {base : Nat} {e : TypeId} {size : Nat} {f : Nat} {m c : Nat} {n : Nat} {xs : List Value} (hf : f ≠ g) (ho : w.ownsRow base e size (.slice (some ⟨f, 0, none⟩) m c) n xs) : w'.ownsRow base e size (.slice (some ⟨f, 0, none⟩) m c) n xs := by
  refine ⟨ho.1, ?_⟩
  rcases ho.2 with hn | ⟨g', cap, cur, e1, hb, hgg, rest⟩
  · exact .inl hn
  · refine .inr ⟨g', cap, cur, e1, hb, ?_, rest⟩
    have : g' = f := by
      simp only [Value.slice.injEq, Option.some.injEq, Addr.mk.injEq] at e1
      exact e1.1.1.symm
    rw [h.block g' ?_ (by omega)]
    · exact hgg
    · refine Nat.lt_of_not_le fun hle => ?_
      rw [Array.getElem?_eq_none hle] at hgg
      cases hgg
/-- taken off: x times the first j limbs, from the place k on -/
structure TakAt (ys zs zs0 : List Nat) (k j x c N : Nat) : Prop where
  len : zs.length = N
  lt : ∀ z ∈ zs, z < 18446744073709551616
  val : nv 18446744073709551616 zs + 18446744073709551616 ^ k * (x * nv 18446744073709551616 (ys.take j)) = nv 18446744073709551616 zs0 + 18446744073709551616 ^ (k + j) * c
  rest : ∀ i, k + j ≤ i → zs.getD i 0 = zs0.getD i 0
theorem tak_step {B P Q Z Z' Z0 A x y o c lo hi new bo : Nat} (h : Z + A = Z0 + P * c) (hz : Z' + P * o = Z + P * new) (hn : new + lo = o + B * bo) (hs : x * y + c = lo + B * hi) (hQ : Q = P * B) : Z' + (A + P * (x * y)) = Z0 + Q * (hi + bo) := by
  have h1 : P * new + P * lo = P * o + P * (B * bo) := by rw [← Nat.mul_add, hn, Nat.mul_add]
  have h2 : P * (x * y) + P * c = P * lo + P * (B * hi) := by rw [← Nat.mul_add, hs, Nat.mul_add]
  have h3 : Q * (hi + bo) = P * (B * hi) + P * (B * bo) := by rw [hQ, Nat.mul_assoc, Nat.mul_add, Nat.mul_add]
  omega
theorem TakAt.next {ys zs zs0 : List Nat} {k j x c N y o lo hi new bo : Nat} (h : TakAt ys zs zs0 k j x c N) (hj : k + j < N) (ho : o = zs.getD (k + j) 0) (hy : y = ys.getD j 0) (hn : new + lo = o + 18446744073709551616 * bo) (hs : x * y + c = lo + 18446744073709551616 * hi) (hb : new < 18446744073709551616) :
    TakAt ys (zs.set (k + j) new) zs0 k (j + 1) x (hi + bo) N := by
  have hl := h.len
  refine ⟨by rw [List.length_set]; exact hl, set_lt h.lt hb, ?_, ?_⟩
  · have s1 := nv_set 18446744073709551616 zs (k + j) new (by omega)
    rw [← ho] at s1
    have := tak_step h.val s1 hn hs (Q := 18446744073709551616 ^ (k + (j + 1))) (by rw [← Nat.add_assoc, Nat.pow_succ])
    rw [nv_take_succ, ← hy, Nat.mul_add, Nat.mul_add]
    rw [Nat.pow_add, Nat.mul_assoc] at this
    rw [← this]
    congr 2
    ac_rfl
  · intro i hi
    rw [getD_set _ _ _ _ (by omega), if_neg (by omega)]
    exact h.rest i (by omega)
/-- the last limb, of which the carry is taken -/
theorem TakAt.last {ys zs zs0 : List Nat} {k j x c N o new bo : Nat} (h : TakAt ys zs zs0 k j x c N) (hj : k + j < N) (ho : o = zs.getD (k + j) 0) (hn : new + c = o + 18446744073709551616 * bo) (hl : ys.length ≤ j) (hb : new < 18446744073709551616) :
    (zs.set (k + j) new).length = N ∧ (∀ z ∈ zs.set (k + j) new, z < 18446744073709551616) ∧ nv 18446744073709551616 (zs.set (k + j) new) + 18446744073709551616 ^ k * (x * nv 18446744073709551616 ys) = nv 18446744073709551616 zs0 + 18446744073709551616 ^ (k + j + 1) * bo ∧ ∀ i, k + j + 1 ≤ i → (zs.set (k + j) new).getD i 0 = zs0.getD i 0 := by
  have hz := h.len
  refine ⟨by rw [List.length_set]; exact hz, set_lt h.lt hb, ?_, ?_⟩
  · have s1 := nv_set 18446744073709551616 zs (k + j) new (by omega)
    rw [← ho] at s1
    have := tak_step (x := 0) (y := 0) (lo := c) (hi := 0) h.val s1 hn (by omega) (Q := 18446744073709551616 ^ (k + j + 1)) (by rw [Nat.pow_succ])
    rw [nv_take_all _ _ _ hl, Nat.zero_mul, Nat.mul_zero, Nat.add_zero, Nat.zero_add] at this
    exact this
  · intro i hi
    rw [getD_set _ _ _ _ (by omega), if_neg (by omega)]
    exact h.rest i (by omega)
/-- put to: the first j limbs, from the place k on -/
structure PutAt (ys zs zs0 : List Nat) (k j c N : Nat) : Prop where
  len : zs.length = N
  lt : ∀ z ∈ zs, z < 18446744073709551616
  val : nv 18446744073709551616 zs + 18446744073709551616 ^ (k + j) * c = nv 18446744073709551616 zs0 + 18446744073709551616 ^ k * nv 18446744073709551616 (ys.take j)
  rest : ∀ i, k + j ≤ i → zs.getD i 0 = zs0.getD i 0
theorem PutAt.next {ys zs zs0 : List Nat} {k j c N y o : Nat} (h : PutAt ys zs zs0 k j c N) (hj : k + j < N) (ho : o = zs.getD (k + j) 0) (hy : y = ys.getD j 0) :
    PutAt ys (zs.set (k + j) ((o + y + c) % 18446744073709551616)) zs0 k (j + 1) ((o + y + c) / 18446744073709551616) N := by
  have hl := h.len
  refine ⟨by rw [List.length_set]; exact hl, set_lt h.lt (Nat.mod_lt _ (by omega)), ?_, ?_⟩
  · have s1 := nv_set 18446744073709551616 zs (k + j) ((o + y + c) % 18446744073709551616) (by omega)
    rw [← ho] at s1
    have h1 := mul_step (B := 18446744073709551616) (x := y) (y := 1) (o := o) (c := c) h.val (by rw [Nat.mul_one, Nat.add_comm y o]; exact s1)
    rw [Nat.mul_one, Nat.add_comm y o] at h1
    rw [← Nat.add_assoc, Nat.pow_succ, h1, nv_take_succ, ← hy, Nat.mul_add, Nat.pow_add, ← Nat.add_assoc, Nat.mul_assoc]
  · intro i hi
    rw [getD_set _ _ _ _ (by omega), if_neg (by omega)]
    exact h.rest i (by omega)
theorem PutAt.start {ys zs : List Nat} {k N : Nat} (hl : zs.length = N) (h : ∀ z ∈ zs, z < 18446744073709551616) : PutAt ys zs zs k 0 0 N := ⟨hl, h, by simp [nv], fun _ _ => rfl⟩
theorem TakAt.start {ys zs : List Nat} {k x N : Nat} (hl : zs.length = N) (h : ∀ z ∈ zs, z < 18446744073709551616) : TakAt ys zs zs k 0 x 0 N := ⟨hl, h, by simp [nv], fun _ _ => rfl⟩
end Go.Proofs.YteiggpgpkejoeaaGreatDoor
