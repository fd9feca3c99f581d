import Derived.Test.YtlhpkflknfmjcaaGreatDoorM31
import Derived.Test.YtlhpkflknfmjcaaGreatDoorM05
import Derived.Test.YtlhpkflknfmjcaaGreatDoorM25
namespace Go.Proofs.YtlhpkflknfmjcaaGreatDoor
set_option linter.unusedVariables false

/-! the guess by three limbs against two is never too small -/
theorem three_le {B P U V a b : Nat} (hP : 0 < P) (hU : U < (a + 1) * P) (hV : b * P ≤ V) (hb : 0 < b) : U / V ≤ a / b := by
  have hV0 : 0 < V := Nat.lt_of_lt_of_le (Nat.mul_pos hb hP) hV
  refine Nat.le_of_lt_succ ((Nat.div_lt_iff_lt_mul hV0).2 ?_)
  have h1 : a < (a / b + 1) * b := by
    have := Nat.lt_div_mul_add (a := a) hb
    rw [Nat.add_mul, Nat.one_mul]; exact this
  have h2 : (a + 1) * P ≤ (a / b + 1) * b * P := Nat.mul_le_mul_right _ h1
  rw [Nat.mul_assoc] at h2
  have h3 : (a / b + 1) * (b * P) ≤ (a / b + 1) * V := Nat.mul_le_mul_left _ hV
  exact Nat.lt_of_lt_of_le hU (Nat.le_trans h2 h3)
theorem guess_start {B p2 p1 p0 v1 v0 : Nat} (hv : 0 < v1) (h0 : p0 < B) (hB : 0 < B) : ((p2 * B + p1) * B + p0) / (v1 * B + v0) ≤ (p2 * B + p1) / v1 := by
  have h2 : ((p2 * B + p1) * B + p0) / (v1 * B + v0) ≤ ((p2 * B + p1) * B + p0) / (v1 * B) := Nat.div_le_div_left (by omega) (Nat.mul_pos hv hB)
  rw [Nat.mul_comm v1 B, ← Nat.div_div_eq_div_mul, Nat.mul_comm (p2 * B + p1) B, Nat.mul_add_div hB, Nat.div_eq_of_lt h0, Nat.add_zero, Nat.mul_comm B v1, Nat.mul_comm B (p2 * B + p1)] at h2
  exact h2
theorem guess_more {B p2 p1 p0 v1 v0 x r : Nat} (h : x * v1 + r = p2 * B + p1) (hpos : 0 < v1 * B + v0) (hc : r * B + p0 < x * v0) : ((p2 * B + p1) * B + p0) / (v1 * B + v0) < x := by
  refine (Nat.div_lt_iff_lt_mul hpos).2 ?_
  rw [← h, Nat.mul_add, Nat.add_mul, ← Nat.mul_assoc]
  generalize x * v1 * B = A at *
  generalize x * v0 = C at *
  generalize r * B = D at *
  omega
/-! what nextLimb leaves -/
theorem limb_done {P R0 V x Z : Nat} (hP : 0 < P) (hV : 0 < V) (h : Z + P * (x * V) = R0) (hx : R0 / P / V ≤ x) : x = R0 / P / V ∧ Z < P * V := by
  have h1 : x * V ≤ R0 / P := (Nat.le_div_iff_mul_le hP).2 (by rw [Nat.mul_comm]; omega)
  have h2 : x ≤ R0 / P / V := (Nat.le_div_iff_mul_le hV).2 h1
  have h3 : x = R0 / P / V := Nat.le_antisymm h2 hx
  refine ⟨h3, ?_⟩
  have h4 : R0 / P < (x + 1) * V := by
    have := Nat.lt_div_mul_add (a := R0 / P) hV
    rw [← h3] at this
    rw [Nat.add_mul, Nat.one_mul]; exact this
  have h5 : R0 < P * ((x + 1) * V) := by
    have := Nat.lt_div_mul_add (a := R0) hP
    have h6 : P * (R0 / P + 1) ≤ P * ((x + 1) * V) := Nat.mul_le_mul_left _ h4
    rw [Nat.mul_add, Nat.mul_one, Nat.mul_comm P (R0 / P)] at h6
    omega
  rw [Nat.add_mul, Nat.one_mul, Nat.mul_add] at h5
  omega
theorem limb_less {P Q R0 V x Z : Nat} (hP : 0 < P) (hV : 0 < V) (hZ : Z < Q) (h : Z + P * (x * V) = R0 + Q) : R0 / P / V < x := by
  refine (Nat.div_lt_iff_lt_mul hV).2 ((Nat.div_lt_iff_lt_mul hP).2 ?_)
  rw [Nat.mul_comm (x * V)]
  omega
/-! THE ROOT: each round -/
theorem am_gm (X Y : Nat) : 4 * (X * Y) ≤ (X + Y) * (X + Y) := by
  rcases Nat.le_total X Y with h | h
  · obtain ⟨d, rfl⟩ := Nat.exists_eq_add_of_le h
    have : (X + (X + d)) * (X + (X + d)) = 4 * (X * (X + d)) + d * d := by
      simp only [Nat.mul_add, Nat.add_mul, Nat.mul_comm d X]
      omega
    omega
  · obtain ⟨d, rfl⟩ := Nat.exists_eq_add_of_le h
    have : (Y + d + Y) * (Y + d + Y) = 4 * ((Y + d) * Y) + d * d := by
      simp only [Nat.mul_add, Nat.add_mul, Nat.mul_comm d Y]
      omega
    omega
/-- S: 2^s; K: 2^k; the new root is less than 1 off -/
theorem root_above {S K a n q : Nat} (hq : n < (q + 1) * (S * (4 * K) * a)) : n < (K * a + q + 1) * (K * a + q + 1) * S := by
  have h := am_gm (K * a) (q + 1)
  rw [← Nat.add_assoc] at h
  have h2 := Nat.mul_le_mul_right S h
  have e : (q + 1) * (S * (4 * K) * a) = 4 * (K * a * (q + 1)) * S := by
    ac_rfl
  rw [e] at hq
  omega
theorem root_below {S K a n q : Nat} (hS : 0 < S) (hK : K ≤ a) (hK0 : 0 < K) (hq : q * (S * (4 * K) * a) ≤ n) (h1 : (a - 1) * (a - 1) * (S * (4 * (K * K))) < n) (h2 : n < (a + 1) * (a + 1) * (S * (4 * (K * K)))) : (K * a + q - 1) * (K * a + q - 1) * S < n := by
  have ha : 0 < a := by omega
  have hKa : 0 < K * a := Nat.mul_pos hK0 ha
  refine Nat.lt_of_not_le fun hn => ?_
  obtain ⟨Z, hZ⟩ : ∃ Z, Z + 1 = K * a + q := ⟨K * a + q - 1, by omega⟩
  rw [show K * a + q - 1 = Z by omega] at hn
  obtain ⟨c, rfl⟩ : ∃ c, a = c + 1 := ⟨a - 1, by omega⟩
  rw [Nat.add_sub_cancel] at h1
  -- q 4K a ≤ Z Z
  have e1 : q * (4 * K * (c + 1)) ≤ Z * Z := by
    refine Nat.le_of_mul_le_mul_right (c := S) ?_ hS
    have : q * (4 * K * (c + 1)) * S = q * (S * (4 * K) * (c + 1)) := by ac_rfl
    omega
  -- Z is between 2 K c and 2 K (a + 1)
  have e2 : 2 * K * c < Z := by
    refine Nat.lt_of_not_le fun hle => ?_
    have g1 := Nat.mul_le_mul_right S (Nat.mul_le_mul hle hle)
    have g2 : 2 * K * c * (2 * K * c) * S = c * c * (S * (4 * (K * K))) := by
      have : (4 : Nat) = 2 * 2 := rfl
      rw [this]; ac_rfl
    omega
  have e3 : q * (c + 1) < (c + 1 + 1) * (c + 1 + 1) * K := by
    have g : 0 < S * (4 * K) := Nat.mul_pos hS (by omega)
    refine Nat.lt_of_mul_lt_mul_right (a := S * (4 * K)) ?_
    have g1 : q * (c + 1) * (S * (4 * K)) = q * (S * (4 * K) * (c + 1)) := by ac_rfl
    have g2 : (c + 1 + 1) * (c + 1 + 1) * K * (S * (4 * K)) = (c + 1 + 1) * (c + 1 + 1) * (S * (4 * (K * K))) := by ac_rfl
    omega
  have e4 : Z < 2 * K * (c + 1 + 1) := by
    refine Nat.lt_of_not_le fun hle => ?_
    have g1 : K * (c + 1) + 2 * K + 1 ≤ q := by
      have : 2 * K * (c + 1 + 1) = K * (c + 1) + K * (c + 1) + 2 * K := by
        simp only [Nat.mul_add, Nat.mul_assoc, Nat.mul_one]; omega
      omega
    have g2 := Nat.mul_le_mul_right (c + 1) g1
    have g3 : (K * (c + 1) + 2 * K + 1) * (c + 1) + K = (c + 1 + 1) * (c + 1 + 1) * K + (c + 1) := by
      generalize c + 1 = a
      have f1 : K * a * a = a * a * K := by ac_rfl
      have f2 : a * K = K * a := Nat.mul_comm _ _
      simp only [Nat.two_mul, Nat.add_mul, Nat.mul_add, Nat.mul_one, Nat.one_mul, f1, f2]
      omega
    omega
  -- the square of 2 K a against Z
  have e5 : (Z + 1) * (4 * K * (c + 1)) = 2 * K * (c + 1) * (2 * K * (c + 1)) + q * (4 * K * (c + 1)) := by
    rw [hZ, Nat.add_mul]
    congr 1
    have : (4 : Nat) = 2 * 2 := rfl
    rw [this]; ac_rfl
  have e6 : 4 * K * (c + 1) ≥ 2 * K * (2 * K) := by
    have g1 := Nat.mul_le_mul_left (4 * K) hK
    have g2 : 4 * K * K = 2 * K * (2 * K) := by
      have : (4 : Nat) = 2 * 2 := rfl
      rw [this]; ac_rfl
    omega
  -- with T = 2 K a, D = 2 K: |T - Z| < D, yet (T - Z)² ≥ D D
  have e7 : 4 * K * (c + 1) = 2 * (2 * K * (c + 1)) := by simp only [Nat.mul_assoc]; omega
  have e8 : 2 * K * (c + 1) = 2 * K * c + 2 * K := by rw [Nat.mul_add, Nat.mul_one]
  have e9 : 2 * K * (c + 1 + 1) = 2 * K * (c + 1) + 2 * K := by rw [Nat.mul_add (2 * K) (c + 1) 1, Nat.mul_one]
  rw [e7] at e5 e6 e1
  generalize 2 * K * (c + 1) = T at *
  generalize 2 * K * c = T0 at *
  generalize 2 * K = D at *
  rw [Nat.add_mul, Nat.one_mul] at e5
  rcases Nat.le_total T Z with h | h
  · obtain ⟨d, rfl⟩ := Nat.exists_eq_add_of_le h
    have hd : d < D := by omega
    have g1 : d * d < D * D := Nat.mul_lt_mul'' hd hd
    have g2 : (T + d) * (2 * T) = T * T + T * T + (T * d + T * d) := by simp only [Nat.mul_add, Nat.add_mul, Nat.two_mul, Nat.mul_comm d T]; omega
    have g3 : (T + d) * (T + d) = T * T + (T * d + T * d) + d * d := by simp only [Nat.mul_add, Nat.add_mul, Nat.mul_comm d T]; omega
    generalize T * T = A at *
    generalize T * d = C at *
    generalize d * d = E at *
    generalize D * D = F at *
    generalize q * (2 * T) = G at *
    omega
  · obtain ⟨d, rfl⟩ := Nat.exists_eq_add_of_le h
    have hd : d < D := by omega
    have g1 : d * d < D * D := Nat.mul_lt_mul'' hd hd
    have g2 : Z * (2 * (Z + d)) = Z * Z + Z * Z + (Z * d + Z * d) := by simp only [Nat.mul_add, Nat.two_mul]
    have g3 : (Z + d) * (Z + d) = Z * Z + (Z * d + Z * d) + d * d := by simp only [Nat.mul_add, Nat.add_mul, Nat.mul_comm d Z]; omega
    generalize Z * Z = A at *
    generalize Z * d = C at *
    generalize d * d = E at *
    generalize D * D = F at *
    generalize q * (2 * (Z + d)) = G at *
    omega
end Go.Proofs.YtlhpkflknfmjcaaGreatDoor
namespace Go.Proofs.YtlhpkflknfmjcaaGreatDoor
open Go.RowKit
set_option linter.unusedVariables false

/-- all but one block is as it was -/
structure Gx (g : Nat) (w w' : World) : Prop where
  os : w'.os = w.os
  output : w'.output = w.output
  size : w.heap.size ≤ w'.heap.size
  block : ∀ k, k < w.heap.size → k ≠ g → w'.heap[k]? = w.heap[k]?
theorem Gx.refl (g : Nat) (w : World) : Gx g w w := ⟨rfl, rfl, Nat.le_refl _, fun _ _ _ => rfl⟩
theorem Gx.trans {g : Nat} {a b c : World} (h : Gx g a b) (k : Gx g b c) : Gx g a c :=
  ⟨k.os.trans h.os, k.output.trans h.output, Nat.le_trans h.size k.size, fun i hi hn => (k.block i (Nat.lt_of_lt_of_le hi h.size) hn).trans (h.block i hi hn)⟩
theorem Gx.of_gr {g : Nat} {w w' : World} (h : Gr w w') : Gx g w w' := ⟨h.os, h.output, h.size, fun k hk _ => h.block k hk⟩
theorem Gx.setCell {g : Nat} {a w : World} (h : Gx g a w) {p : Addr} (hp : p.block = g) (u : Value) : Gx g a (w.setCell p u) :=
  ⟨h.os, h.output, by simpa [World.setCell] using h.size, fun k hk hn => (Below.heap_setCell _ _ _ _ (by omega)).trans (h.block k hk hn)⟩
theorem Gx.owns {g : Nat} {w w' : World} (h : Gx g w w') {base : Nat} {e : TypeId} {size : Nat} {f : Nat} {m c : Nat} {n : Nat} {xs : List Value} (hf : f ≠ g) (ho : w.ownsRow base e size (.slice (some ⟨f, 0, none⟩) m c) n xs) : w'.ownsRow base e size (.slice (some ⟨f, 0, none⟩) m c) n xs := by
  refine ⟨ho.1, ?_⟩
  rcases ho.2 with hn | ⟨g', cap, cur, e1, hb, hgg, rest⟩
  · exact .inl hn
  · refine .inr ⟨g', cap, cur, e1, hb, ?_, rest⟩
    have : g' = f := by
      simp only [Value.slice.injEq, Option.some.injEq, Addr.mk.injEq] at e1
      exact e1.1.1.symm
    rw [h.block g' ?_ (by omega)]
    · exact hgg
    · refine Nat.lt_of_not_le fun hle => ?_
      rw [Array.getElem?_eq_none hle] at hgg
      cases hgg
/-- taken off: x times the first j limbs, from the place k on -/
structure TakAt (ys zs zs0 : List Nat) (k j x c N : Nat) : Prop where
  len : zs.length = N
  lt : ∀ z ∈ zs, z < 18446744073709551616
  val : nv 18446744073709551616 zs + 18446744073709551616 ^ k * (x * nv 18446744073709551616 (ys.take j)) = nv 18446744073709551616 zs0 + 18446744073709551616 ^ (k + j) * c
  rest : ∀ i, k + j ≤ i → zs.getD i 0 = zs0.getD i 0
theorem tak_step {B P Q Z Z' Z0 A x y o c lo hi new bo : Nat} (h : Z + A = Z0 + P * c) (hz : Z' + P * o = Z + P * new) (hn : new + lo = o + B * bo) (hs : x * y + c = lo + B * hi) (hQ : Q = P * B) : Z' + (A + P * (x * y)) = Z0 + Q * (hi + bo) := by
  have h1 : P * new + P * lo = P * o + P * (B * bo) := by rw [← Nat.mul_add, hn, Nat.mul_add]
  have h2 : P * (x * y) + P * c = P * lo + P * (B * hi) := by rw [← Nat.mul_add, hs, Nat.mul_add]
  have h3 : Q * (hi + bo) = P * (B * hi) + P * (B * bo) := by rw [hQ, Nat.mul_assoc, Nat.mul_add, Nat.mul_add]
  omega
theorem TakAt.next {ys zs zs0 : List Nat} {k j x c N y o lo hi new bo : Nat} (h : TakAt ys zs zs0 k j x c N) (hj : k + j < N) (ho : o = zs.getD (k + j) 0) (hy : y = ys.getD j 0) (hn : new + lo = o + 18446744073709551616 * bo) (hs : x * y + c = lo + 18446744073709551616 * hi) (hb : new < 18446744073709551616) :
    TakAt ys (zs.set (k + j) new) zs0 k (j + 1) x (hi + bo) N := by
  have hl := h.len
  refine ⟨by rw [List.length_set]; exact hl, set_lt h.lt hb, ?_, ?_⟩
  · have s1 := nv_set 18446744073709551616 zs (k + j) new (by omega)
    rw [← ho] at s1
    have := tak_step h.val s1 hn hs (Q := 18446744073709551616 ^ (k + (j + 1))) (by rw [← Nat.add_assoc, Nat.pow_succ])
    rw [nv_take_succ, ← hy, Nat.mul_add, Nat.mul_add]
    rw [Nat.pow_add, Nat.mul_assoc] at this
    rw [← this]
    congr 2
    ac_rfl
  · intro i hi
    rw [getD_set _ _ _ _ (by omega), if_neg (by omega)]
    exact h.rest i (by omega)
/-- the last limb, of which the carry is taken -/
theorem TakAt.last {ys zs zs0 : List Nat} {k j x c N o new bo : Nat} (h : TakAt ys zs zs0 k j x c N) (hj : k + j < N) (ho : o = zs.getD (k + j) 0) (hn : new + c = o + 18446744073709551616 * bo) (hl : ys.length ≤ j) (hb : new < 18446744073709551616) :
    (zs.set (k + j) new).length = N ∧ (∀ z ∈ zs.set (k + j) new, z < 18446744073709551616) ∧ nv 18446744073709551616 (zs.set (k + j) new) + 18446744073709551616 ^ k * (x * nv 18446744073709551616 ys) = nv 18446744073709551616 zs0 + 18446744073709551616 ^ (k + j + 1) * bo ∧ ∀ i, k + j + 1 ≤ i → (zs.set (k + j) new).getD i 0 = zs0.getD i 0 := by
  have hz := h.len
  refine ⟨by rw [List.length_set]; exact hz, set_lt h.lt hb, ?_, ?_⟩
  · have s1 := nv_set 18446744073709551616 zs (k + j) new (by omega)
    rw [← ho] at s1
    have := tak_step (x := 0) (y := 0) (lo := c) (hi := 0) h.val s1 hn (by omega) (Q := 18446744073709551616 ^ (k + j + 1)) (by rw [Nat.pow_succ])
    rw [nv_take_all _ _ _ hl, Nat.zero_mul, Nat.mul_zero, Nat.add_zero, Nat.zero_add] at this
    exact this
  · intro i hi
    rw [getD_set _ _ _ _ (by omega), if_neg (by omega)]
    exact h.rest i (by omega)
/-- put to: the first j limbs, from the place k on -/
structure PutAt (ys zs zs0 : List Nat) (k j c N : Nat) : Prop where
  len : zs.length = N
  lt : ∀ z ∈ zs, z < 18446744073709551616
  val : nv 18446744073709551616 zs + 18446744073709551616 ^ (k + j) * c = nv 18446744073709551616 zs0 + 18446744073709551616 ^ k * nv 18446744073709551616 (ys.take j)
  rest : ∀ i, k + j ≤ i → zs.getD i 0 = zs0.getD i 0
theorem PutAt.next {ys zs zs0 : List Nat} {k j c N y o : Nat} (h : PutAt ys zs zs0 k j c N) (hj : k + j < N) (ho : o = zs.getD (k + j) 0) (hy : y = ys.getD j 0) :
    PutAt ys (zs.set (k + j) ((o + y + c) % 18446744073709551616)) zs0 k (j + 1) ((o + y + c) / 18446744073709551616) N := by
  have hl := h.len
  refine ⟨by rw [List.length_set]; exact hl, set_lt h.lt (Nat.mod_lt _ (by omega)), ?_, ?_⟩
  · have s1 := nv_set 18446744073709551616 zs (k + j) ((o + y + c) % 18446744073709551616) (by omega)
    rw [← ho] at s1
    have h1 := mul_step (B := 18446744073709551616) (x := y) (y := 1) (o := o) (c := c) h.val (by rw [Nat.mul_one, Nat.add_comm y o]; exact s1)
    rw [Nat.mul_one, Nat.add_comm y o] at h1
    rw [← Nat.add_assoc, Nat.pow_succ, h1, nv_take_succ, ← hy, Nat.mul_add, Nat.pow_add, ← Nat.add_assoc, Nat.mul_assoc]
  · intro i hi
    rw [getD_set _ _ _ _ (by omega), if_neg (by omega)]
    exact h.rest i (by omega)
theorem PutAt.start {ys zs : List Nat} {k N : Nat} (hl : zs.length = N) (h : ∀ z ∈ zs, z < 18446744073709551616) : PutAt ys zs zs k 0 0 N := ⟨hl, h, by simp [nv], fun _ _ => rfl⟩
theorem TakAt.start {ys zs : List Nat} {k x N : Nat} (hl : zs.length = N) (h : ∀ z ∈ zs, z < 18446744073709551616) : TakAt ys zs zs k 0 x 0 N := ⟨hl, h, by simp [nv], fun _ _ => rfl⟩
/-- borrowed: the limb, and what is borrowed -/
theorem bor_nat {o lo : Nat} (ho : o < 18446744073709551616) (hlo : lo < 18446744073709551616) : ∃ new bo : Nat, new + lo = o + 18446744073709551616 * bo ∧ bo ≤ 1 ∧ new < 18446744073709551616 ∧ (o < lo → bo = 1) ∧ (lo ≤ o → bo = 0) := by
  by_cases h : o < lo
  · exact ⟨o + 18446744073709551616 - lo, 1, by omega, by omega, by omega, fun _ => rfl, fun _ => by omega⟩
  · exact ⟨o - lo, 0, by omega, by omega, by omega, fun _ => by omega, fun _ => rfl⟩
end Go.Proofs.YtlhpkflknfmjcaaGreatDoor
namespace Go.Proofs.YtlhpkflknfmjcaaGreatDoor
open Go.RowKit
set_option linter.unusedVariables false

/-! THE STATEMENT'S OWN LONG DIVISION: numbers -/
/-- times: the first i digits -/
structure TmAt (xs zs : List Nat) (i b c m : Nat) : Prop where
  len : zs.length = m
  lt : ∀ z ∈ zs, z < 4294967296
  val : nv 4294967296 zs + 4294967296 ^ i * c = b * nv 4294967296 (xs.take i)
  zero : ∀ j, i ≤ j → zs.getD j 0 = 0
theorem getD_rep (m j : Nat) : (List.replicate m 0).getD j 0 = 0 := by
  rw [List.getD_eq_getElem?_getD, List.getElem?_replicate]; split <;> rfl
theorem TmAt.start (xs : List Nat) (b m : Nat) : TmAt xs (List.replicate m 0) 0 b 0 m :=
  ⟨by simp, (fun z hz => by rw [List.mem_replicate] at hz; omega), by simp [nv, nv_zeros], fun j _ => getD_rep m j⟩
theorem TmAt.next {xs zs : List Nat} {i b c m x s : Nat} (h : TmAt xs zs i b c m) (hi : i < m) (hx : x = xs.getD i 0) (hs : s = x * b + c) : TmAt xs (zs.set i (s % 4294967296)) (i + 1) b (s / 4294967296) m := by
  have hl := h.len
  refine ⟨by rw [List.length_set]; exact hl, set_lt h.lt (Nat.mod_lt _ (by omega)), ?_, fun j hj => ?_⟩
  · have s1 := nv_set 4294967296 zs i (s % 4294967296) (by omega)
    rw [h.zero i (Nat.le_refl _), Nat.mul_zero, Nat.add_zero] at s1
    rw [s1, nv_take_succ, ← hx, Nat.pow_succ, hs]
    exact up_step h.val _ rfl
  · rw [getD_set _ _ _ _ (by omega), if_neg (by omega)]
    exact h.zero j (by omega)
theorem TmAt.done {xs zs : List Nat} {b c m : Nat} (h : TmAt xs zs m b c m) (hl : xs.length ≤ m) (hf : b * nv 4294967296 xs < 4294967296 ^ m) : nv 4294967296 zs = b * nv 4294967296 xs := by
  have hv := h.val
  rw [nv_take_all _ _ _ hl] at hv
  rcases Nat.eq_zero_or_pos c with rfl | hc
  · simpa using hv
  · have := Nat.mul_le_mul_left (4294967296 ^ m) hc
    omega
theorem nv_dropz {B : Nat} {ds : List Nat} (hB : 0 < B) (hd : ∀ d ∈ ds, d < B) (q : Nat) (hq : q ≤ ds.length) : nv B ds / B ^ q = nv B (ds.drop q) := by
  have h1 : nv B ds = nv B (ds.take q) + B ^ q * nv B (ds.drop q) := by
    conv => lhs; rw [← List.take_append_drop q ds, nv_append, List.length_take, Nat.min_eq_left hq]
  have h2 := nv_lt B (ds.take q) (fun d h => hd d (List.mem_of_mem_take h))
  rw [List.length_take, Nat.min_eq_left hq] at h2
  rw [h1, Nat.add_comm, Nat.mul_add_div (Nat.pow_pos hB), Nat.div_eq_of_lt h2, Nat.add_zero]
/-- digits from a place on -/
theorem cut_val {zs : List Nat} {k m : Nat} (hz : ∀ z ∈ zs, z < 4294967296) (hN : k + m ≤ zs.length) (h0 : ∀ i, k + m ≤ i → zs.getD i 0 = 0) : nv 4294967296 ((zs.drop k).take m) = nv 4294967296 zs / 4294967296 ^ k := by
  rw [nv_dropz (by omega) hz k (by omega)]
  refine nv_take_zeros _ _ _ fun i h1 h2 => ?_
  rw [List.getD_eq_getElem?_getD, List.getElem?_drop, ← List.getD_eq_getElem?_getD]
  exact h0 _ (by omega)
theorem cut_at {zs : List Nat} {k m j : Nat} (hj : j < m) : ((zs.drop k).take m).getD j 0 = zs.getD (k + j) 0 := by
  rw [List.getD_eq_getElem?_getD, List.getElem?_take_of_lt hj, List.getElem?_drop, ← List.getD_eq_getElem?_getD]
theorem cut_lt {zs : List Nat} {k m : Nat} (hz : ∀ z ∈ zs, z < 4294967296) : ∀ z ∈ (zs.drop k).take m, z < 4294967296 := fun z h => hz z (List.mem_of_mem_drop (List.mem_of_mem_take h))
theorem cut_len {zs : List Nat} {k m : Nat} (hN : k + m ≤ zs.length) : ((zs.drop k).take m).length = m := by
  rw [List.length_take, List.length_drop]; omega
theorem nv_small {zs : List Nat} {k : Nat} (hz : ∀ z ∈ zs, z < 4294967296) (h0 : ∀ i, k ≤ i → zs.getD i 0 = 0) : nv 4294967296 zs < 4294967296 ^ k := by
  rw [← nv_take_zeros 4294967296 zs k (fun i h _ => h0 i h)]
  refine Nat.lt_of_lt_of_le (nv_lt _ _ (fun z h => hz z (List.mem_of_mem_take h))) (Nat.pow_le_pow_right (by omega) ?_)
  rw [List.length_take]; omega
theorem nv_zero_above {zs : List Nat} {k : Nat} (hz : ∀ z ∈ zs, z < 4294967296) (h : nv 4294967296 zs < 4294967296 ^ k) : ∀ i, k ≤ i → zs.getD i 0 = 0 := fun i hi => by
  by_cases hl : i < zs.length
  · have e := nv_take_succ 4294967296 zs i
    have h1 : nv 4294967296 (zs.take (i + 1)) ≤ nv 4294967296 zs := by
      have := nv_append 4294967296 (zs.take (i + 1)) (zs.drop (i + 1))
      rw [List.take_append_drop] at this
      omega
    have h2 : 4294967296 ^ k ≤ 4294967296 ^ i := Nat.pow_le_pow_right (by omega) hi
    rcases Nat.eq_zero_or_pos (zs.getD i 0) with h3 | h3
    · exact h3
    · have := Nat.mul_le_mul_left (4294967296 ^ i) h3
      omega
  · rw [List.getD_eq_getElem?_getD, List.getElem?_eq_none (by omega)]; rfl
/-- taken off, digit by digit -/
structure SbAt (ps zs zs0 : List Nat) (k j b N : Nat) : Prop where
  len : zs.length = N
  lt : ∀ z ∈ zs, z < 4294967296
  le : b ≤ 1
  val : nv 4294967296 zs + 4294967296 ^ k * nv 4294967296 (ps.take j) = nv 4294967296 zs0 + 4294967296 ^ (k + j) * b
  rest : ∀ i, k + j ≤ i → zs.getD i 0 = zs0.getD i 0
theorem SbAt.start {ps zs : List Nat} {k N : Nat} (hl : zs.length = N) (h : ∀ z ∈ zs, z < 4294967296) : SbAt ps zs zs k 0 0 N := ⟨hl, h, by omega, by simp [nv], fun _ _ => rfl⟩
theorem SbAt.next {ps zs zs0 : List Nat} {k j b N o p s : Nat} (h : SbAt ps zs zs0 k j b N) (hj : k + j < N) (ho : o = zs.getD (k + j) 0) (hp : p = ps.getD j 0) (bo : o < 4294967296) (bp : p < 4294967296) (hs : s + p + b = 4294967296 + o) :
    SbAt ps (zs.set (k + j) (s % 4294967296)) zs0 k (j + 1) (1 - s / 4294967296) N := by
  have hl := h.len
  have hb := h.le
  refine ⟨by rw [List.length_set]; exact hl, set_lt h.lt (Nat.mod_lt _ (by omega)), by omega, ?_, ?_⟩
  · have s1 := nv_set 4294967296 zs (k + j) (s % 4294967296) (by omega)
    rw [← ho] at s1
    have := tak_step (B := 4294967296) (x := p) (y := 1) (lo := p + b) (hi := 0) (bo := 1 - s / 4294967296) h.val s1 (by omega) (by omega) (Q := 4294967296 ^ (k + (j + 1))) (by rw [← Nat.add_assoc, Nat.pow_succ])
    rw [nv_take_succ, ← hp, Nat.mul_add]
    rw [Nat.mul_one, Nat.zero_add, Nat.pow_add, Nat.mul_assoc] at this
    exact this
  · intro i hi
    rw [getD_set _ _ _ _ (by omega), if_neg (by omega)]
    exact h.rest i (by omega)
theorem SbAt.done {ps zs zs0 : List Nat} {k m b N : Nat} (h : SbAt ps zs zs0 k m b N) (hl : ps.length ≤ m) (h0 : ∀ i, k + m ≤ i → zs0.getD i 0 = 0) (hle : 4294967296 ^ k * nv 4294967296 ps ≤ nv 4294967296 zs0) : nv 4294967296 zs + 4294967296 ^ k * nv 4294967296 ps = nv 4294967296 zs0 := by
  have hv := h.val
  rw [nv_take_all _ _ _ hl] at hv
  have hb := h.le
  have hz := nv_small (k := k + m) h.lt (fun i hi => by rw [h.rest i hi]; exact h0 i hi)
  rcases Nat.eq_zero_or_pos b with rfl | hc
  · simpa using hv
  · obtain rfl : b = 1 := by omega
    omega
/-- the digit that is guessed is not too small -/
theorem guess_ge {us vs : List Nat} {k m : Nat} (hu : ∀ z ∈ us, z < 4294967296) (hv : ∀ z ∈ vs, z < 4294967296) (hm : vs.length = m + 1) (hN : k + (m + 2) ≤ us.length) (h0 : ∀ i, k + (m + 2) ≤ i → us.getD i 0 = 0) (ht : 0 < vs.getD m 0) :
    nv 4294967296 us / 4294967296 ^ k / nv 4294967296 vs ≤ (us.getD (k + (m + 1)) 0 * 4294967296 + us.getD (k + m) 0) / vs.getD m 0 := by
  rw [← cut_val hu hN h0]
  refine three_le (B := 4294967296) (P := 4294967296 ^ m) (Nat.pow_pos (by omega)) ?_ ?_ ht
  · have e1 := nv_take_succ 4294967296 (us.drop k) (m + 1)
    have e2 := nv_take_succ 4294967296 (us.drop k) m
    have g1 : (us.drop k).getD (m + 1) 0 = us.getD (k + (m + 1)) 0 := by rw [List.getD_eq_getElem?_getD, List.getElem?_drop, ← List.getD_eq_getElem?_getD]
    have g2 : (us.drop k).getD m 0 = us.getD (k + m) 0 := by rw [List.getD_eq_getElem?_getD, List.getElem?_drop, ← List.getD_eq_getElem?_getD]
    have hlow : nv 4294967296 ((us.drop k).take m) < 4294967296 ^ m := by
      have := nv_lt 4294967296 ((us.drop k).take m) (cut_lt hu)
      rwa [cut_len (by omega)] at this
    rw [e1, e2, g1, g2, Nat.pow_succ]
    generalize us.getD (k + (m + 1)) 0 = a
    generalize us.getD (k + m) 0 = c
    generalize nv 4294967296 ((us.drop k).take m) = l at *
    generalize 4294967296 ^ m = P at *
    have : (a * 4294967296 + c + 1) * P = P * c + P * 4294967296 * a + P := by
      rw [Nat.add_mul, Nat.add_mul, Nat.one_mul, Nat.mul_comm c P, Nat.mul_comm (a * 4294967296) P, Nat.mul_comm a, ← Nat.mul_assoc]; omega
    omega
  · have e := nv_take_succ 4294967296 vs m
    rw [nv_take_all _ _ _ (by omega)] at e
    rw [e, Nat.mul_comm]; omega
/-- long: the digits that are told, what is left -/
structure LgAt (us outs : List Nat) (k L M V N : Nat) : Prop where
  ulen : us.length = L
  olen : outs.length = M
  ult : ∀ z ∈ us, z < 4294967296
  olt : ∀ z ∈ outs, z < 4294967296
  val : nv 4294967296 outs * V + nv 4294967296 us = N
  lt : nv 4294967296 us < 4294967296 ^ k * V
  zero : ∀ j, j < k → outs.getD j 0 = 0
theorem LgAt.next {us us' outs : List Nat} {k L M V N t : Nat} (h : LgAt us outs (k + 1) L M V N) (hk : k < M) (hV : 0 < V) (hl : us'.length = L) (hlt : ∀ z ∈ us', z < 4294967296) (ht : t < 4294967296) (hv : nv 4294967296 us' + 4294967296 ^ k * (t * V) = nv 4294967296 us) (hd : nv 4294967296 us / 4294967296 ^ k / V ≤ t) : LgAt us' (outs.set k t) k L M V N := by
  obtain ⟨_, hlt2⟩ := limb_done (Nat.pow_pos (by omega : 0 < 4294967296)) hV hv hd
  have ho := h.olen
  refine ⟨hl, by rw [List.length_set]; exact ho, hlt, set_lt h.olt ht, ?_, hlt2, fun j hj => ?_⟩
  · have s1 := nv_set 4294967296 outs k t (by omega)
    rw [h.zero k (by omega), Nat.mul_zero, Nat.add_zero] at s1
    rw [s1, Nat.add_mul, ← h.val, ← hv, Nat.mul_assoc]
    omega
  · rw [getD_set _ _ _ _ (by omega), if_neg (by omega)]
    exact h.zero j (by omega)
theorem LgAt.done {us outs : List Nat} {L M V N : Nat} (h : LgAt us outs 0 L M V N) (hV : 0 < V) : nv 4294967296 outs = N / V ∧ nv 4294967296 us = N % V := by
  have hl := h.lt
  rw [Nat.pow_zero, Nat.one_mul] at hl
  have hv := h.val
  rw [← hv, Nat.mul_comm]
  exact ⟨by rw [Nat.mul_add_div hV, Nat.div_eq_of_lt hl, Nat.add_zero], by rw [Nat.mul_add_mod, Nat.mod_eq_of_lt hl]⟩
theorem scale_ok {t : Nat} (h1 : 0 < t) (h2 : t < 4294967296) : 0 < 4294967296 / (t + 1) ∧ 4294967296 / (t + 1) ≤ 2147483648 ∧ 4294967296 / (t + 1) * (t + 1) ≤ 4294967296 :=
  ⟨Nat.div_pos (by omega) (by omega), by
    have := Nat.div_le_div_left (a := 4294967296) (show 2 ≤ t + 1 by omega) (by omega)
    omega, Nat.div_mul_le_self _ _⟩
theorem scale_fits {ys : List Nat} {m : Nat} (hy : ∀ z ∈ ys, z < 4294967296) (hm : ys.length = m + 1) (h1 : 0 < ys.getD m 0) : 4294967296 / (ys.getD m 0 + 1) * nv 4294967296 ys < 4294967296 ^ (m + 1) := by
  have ht := getD_lt (by omega) hy m
  obtain ⟨s1, s2, s3⟩ := scale_ok h1 ht
  have e := nv_take_succ 4294967296 ys m
  rw [nv_take_all _ _ _ (by omega)] at e
  have hlow : nv 4294967296 (ys.take m) < 4294967296 ^ m := by
    have := nv_lt 4294967296 (ys.take m) (fun z h => hy z (List.mem_of_mem_take h))
    rwa [List.length_take, Nat.min_eq_left (by omega)] at this
  generalize ys.getD m 0 = t at *
  generalize 4294967296 / (t + 1) = c at *
  have h2 : nv 4294967296 ys < 4294967296 ^ m * (t + 1) := by rw [e, Nat.mul_add, Nat.mul_one]; omega
  have h3 := Nat.mul_lt_mul_of_pos_left h2 s1
  refine Nat.lt_of_lt_of_le h3 ?_
  rw [Nat.mul_left_comm, Nat.pow_succ]
  exact Nat.mul_le_mul_left _ s3
/-- the root from above: never below -/
theorem newton_ge {a x : Nat} (hx : 0 < x) {r : Nat} (hr : r * r ≤ a) : r ≤ (x + a / x) / 2 := by
  rw [Nat.le_div_iff_mul_le (by omega)]
  refine Nat.le_of_lt_succ ?_
  refine Nat.lt_of_not_le fun h => ?_
  have h1 : a < (a / x + 1) * x := by
    have := Nat.div_add_mod a x
    have := Nat.mod_lt a hx
    rw [Nat.add_mul, Nat.one_mul, Nat.mul_comm]; omega
  have h2 := am_gm x (a / x + 1)
  have h3 : (x + (a / x + 1)) * (x + (a / x + 1)) ≤ (r * 2) * (r * 2) := Nat.mul_le_mul (by omega) (by omega)
  have h4 : x * (a / x + 1) = (a / x + 1) * x := Nat.mul_comm _ _
  have h5 : (r * 2) * (r * 2) = 4 * (r * r) := by rw [Nat.mul_mul_mul_comm]; omega
  omega
theorem newton_le {a x : Nat} (hx : 0 < x) (h : x ≤ (x + a / x) / 2) : x * x ≤ a := by
  have h1 : x ≤ a / x := by omega
  exact (Nat.le_div_iff_mul_le hx).1 h1
end Go.Proofs.YtlhpkflknfmjcaaGreatDoor
namespace Go.Proofs.YtlhpkflknfmjcaaGreatDoor
open Go.RowKit
set_option linter.unusedVariables false

theorem Row.gx {g : Nat} {w w' : World} {ad : Option Addr} {n cap : Nat} {xs : List Nat} (h : Row w ad n cap xs) (hne : 0 < n → ∀ a, ad = some a → a.block ≠ g) (gx : Gx g w w') : Row w' ad n cap xs := by
  refine ⟨h.len, h.le, h.max, h.nil, fun hp => ?_⟩
  obtain ⟨b, off, e, hb, hc⟩ := h.cells hp
  exact ⟨b, off, e, Nat.lt_of_lt_of_le hb gx.size, fun j hj => (World.cell?_of_block (w := w) (gx.block b hb (hne hp _ e))).trans (hc j hj)⟩
set_option maxRecDepth 10000 in
set_option maxHeartbeats 1600000 in
theorem timesR (ad : Option Addr) (m cap b P : Nat) (xs : List Nat) (w : World) (rx : Row w ad m cap xs) (hx : ∀ x ∈ xs, x < 4294967296) (hb : b < 4294967296) (hP : P ≤ 1099511627776) :
    Calls Tryz.prog 227 #[.slice ad m cap, .int .u64 (b : Int), .int .i64 (P : Int)] w fun e w' => ∃ (zs : List Nat) (c : Nat), e = .returned (.slice (some ⟨w.heap.size, 0, none⟩) P P) ∧ w'.ownsRow w.heap.size 91 1 (.slice (some ⟨w.heap.size, 0, none⟩) P P) P (u64s zs) ∧ TmAt xs zs P b c P ∧ Gr w w' := by
  have RX : Hid (Row w ad m cap xs) := rx
  have HX : Hid (∀ x ∈ xs, x < 4294967296) := hx
  clear rx hx
  go_enter Tryz.func227, Tryz.ntmps227
  go_wp2_with (at_make; refine wpList_made rfl _ _ rfl P _ rfl rfl ?_ ?_ ?_; rotate_right; intro w2 hown0 hg2)
  case' refine_1 => rfl
  case' refine_2 => omega
  have G2 : Hid (Gr w w2) := hg2
  clear hg2
  go_loopw [8, 9] (fun cr i wr => ∃ (k c : Nat) (zs : List Nat), k ≤ P ∧ c < 4294967296 ∧ i = .int .i64 (k : Int) ∧ cr = .int .u64 (c : Int) ∧ wr.ownsRow w.heap.size 91 1 (.slice (some ⟨w.heap.size, 0, none⟩) P P) P (u64s zs) ∧ Hid (TmAt xs zs k b c P) ∧ Hid (Gr w wr)) (fun _ i _ => P - (intOf i).toNat)
  case atStart => exact ⟨0, 0, List.replicate P 0, by omega, by omega, rfl, rfl, hown0, TmAt.start xs b P, G2⟩
  case round =>
    obtain ⟨k, c, zs, hk, hc, rfl, rfl, hown, hA, hg⟩ := hrel
    by_cases hlt : k < P
    · obtain ⟨xk, hxk⟩ : ∃ xk, xk = xs.getD k 0 := ⟨_, rfl⟩
      have D1 : Hid (Calls Tryz.prog 141 #[.slice ad m cap, .int .i64 (k : Int)] wr fun e w' => e = .returned (.int .u64 (xk : Int)) ∧ wr = w') := by
        rw [hxk]; exact (digit76 ad m cap xs k wr (RX.out.gr hg.out) (by omega)).mono fun e w' h => ⟨h.1, h.2.symm⟩
      have bxk : xk < 4294967296 := hxk ▸ getD_lt (by omega) HX.out k
      have hcell3 := owns_cell hown k (by omega)
      have hfz := hown.frozenAt k
      have hpr : xk * b ≤ 18446744065119617025 := prod_lt bxk hb
      have hpr' : (xk : Int) * (b : Int) ≤ 18446744065119617025 := by
        have : ((xk * b : Nat) : Int) ≤ 18446744065119617025 := by omega
        rwa [Int.natCast_mul] at this
      have hpr0 : 0 ≤ (xk : Int) * (b : Int) := Int.mul_nonneg (by omega) (by omega)
      have HM : Hid ((xk : Int) * (b : Int) = ((xk * b : Nat) : Int)) := (Int.natCast_mul _ _).symm
      have EM : Hid (((xk : Int) * (b : Int) + (c : Int)) % 4294967296 = (((xk * b + c) % 4294967296 : Nat) : Int)) := by
        show _ = _
        rw [HM.out]; omega
      have ED : Hid (((xk : Int) * (b : Int) + (c : Int)) / 4294967296 = (((xk * b + c) / 4294967296 : Nat) : Int)) := by
        show _ = _
        rw [HM.out]; omega
      have NX : Hid (TmAt xs (zs.set k ((xk * b + c) % 4294967296)) (k + 1) b ((xk * b + c) / 4294967296) P) := hA.out.next hlt hxk rfl
      have hc2 : (xk * b + c) / 4294967296 < 4294967296 := by omega
      have i1 : (k : Int) < (P : Int) := by omega
      clear hxk
      go_wp2_with (go_at_call 141; (with_reducible refine D1.out.mono ?_); rintro e w' ⟨rfl, rfl⟩)
      go_roundw
      case rel =>
        rw [EM.out, ED.out]
        exact ⟨k + 1, _, _, by omega, hc2, by go_num, rfl, owns_set hown k _, NX.out, hg.out.setCell (Nat.le_refl _) _⟩
      case measure => simp only [intOf]; omega
    · have hkP : k = P := by omega
      subst hkP
      go_wp2
      go_ret
      exact ⟨zs, c, rfl, hown, hA.out, hg.out⟩
end Go.Proofs.YtlhpkflknfmjcaaGreatDoor
