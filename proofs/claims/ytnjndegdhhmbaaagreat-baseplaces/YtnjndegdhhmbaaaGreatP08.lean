import Derived.Test.YtnjndegdhhmbaaaGreatP07
namespace Go.Proofs.YtnjndegdhhmbaaaGreat
set_option linter.unusedVariables false

/-! the guess by three limbs against two is never too small -/
theorem three_le {B P U V a b : Nat} (hP : 0 < P) (hU : U < (a + 1) * P) (hV : b * P ≤ V) (hb : 0 < b) : U / V ≤ a / b := by
  have hV0 : 0 < V := Nat.lt_of_lt_of_le (Nat.mul_pos hb hP) hV
  refine Nat.le_of_lt_succ ((Nat.div_lt_iff_lt_mul hV0).2 ?_)
  have h1 : a < (a / b + 1) * b := by
    have := Nat.lt_div_mul_add (a := a) hb
    rw [Nat.add_mul, Nat.one_mul]; exact this
  have h2 : (a + 1) * P ≤ (a / b + 1) * b * P := Nat.mul_le_mul_right _ h1
  rw [Nat.mul_assoc] at h2
  have h3 : (a / b + 1) * (b * P) ≤ (a / b + 1) * V := Nat.mul_le_mul_left _ hV
  exact Nat.lt_of_lt_of_le hU (Nat.le_trans h2 h3)
/-! what nextLimb leaves -/
theorem limb_done {P R0 V x Z : Nat} (hP : 0 < P) (hV : 0 < V) (h : Z + P * (x * V) = R0) (hx : R0 / P / V ≤ x) : x = R0 / P / V ∧ Z < P * V := by
  have h1 : x * V ≤ R0 / P := (Nat.le_div_iff_mul_le hP).2 (by rw [Nat.mul_comm]; omega)
  have h2 : x ≤ R0 / P / V := (Nat.le_div_iff_mul_le hV).2 h1
  have h3 : x = R0 / P / V := Nat.le_antisymm h2 hx
  refine ⟨h3, ?_⟩
  have h4 : R0 / P < (x + 1) * V := by
    have := Nat.lt_div_mul_add (a := R0 / P) hV
    rw [← h3] at this
    rw [Nat.add_mul, Nat.one_mul]; exact this
  have h5 : R0 < P * ((x + 1) * V) := by
    have := Nat.lt_div_mul_add (a := R0) hP
    have h6 : P * (R0 / P + 1) ≤ P * ((x + 1) * V) := Nat.mul_le_mul_left _ h4
    rw [Nat.mul_add, Nat.mul_one, Nat.mul_comm P (R0 / P)] at h6
    omega
  rw [Nat.add_mul, Nat.one_mul, Nat.mul_add] at h5
  omega
theorem limb_less {P Q R0 V x Z : Nat} (hP : 0 < P) (hV : 0 < V) (hZ : Z < Q) (h : Z + P * (x * V) = R0 + Q) : R0 / P / V < x := by
  refine (Nat.div_lt_iff_lt_mul hV).2 ((Nat.div_lt_iff_lt_mul hP).2 ?_)
  rw [Nat.mul_comm (x * V)]
  omega
/-! THE ROOT: each round -/
end Go.Proofs.YtnjndegdhhmbaaaGreat
namespace Go.Proofs.YtnjndegdhhmbaaaGreat
open Go.RowKit
set_option linter.unusedVariables false

structure TimAt (xs zs : List Nat) (k n2 Y N : Nat) : Prop where
  len : zs.length = N
  lt : ∀ x ∈ zs, x < 18446744073709551616
  val : nv 18446744073709551616 zs = nv 18446744073709551616 (xs.take k) * Y
  zero : ∀ j, k + n2 ≤ j → zs.getD j 0 = 0
theorem TimAt.start {xs : List Nat} {n2 Y N : Nat} : TimAt xs (List.replicate N 0) 0 n2 Y N :=
  ⟨by simp, (fun x hx => by rw [List.mem_replicate] at hx; omega), by simp [nv, nv_zeros], (fun j _ => by rw [List.getD_eq_getElem?_getD, List.getElem?_replicate]; split <;> rfl)⟩
theorem TimAt.next {xs ys zs zs0 : List Nat} {k n2 Y N x c : Nat} (h : TimAt xs zs0 k n2 Y N) (m : MulAt ys zs zs0 k n2 x c N) (hk : k + n2 < N) (dy : Dg 18446744073709551616 Y ys) (hn : ys.length = n2) (hx : x = xs.getD k 0) (hc : c < 18446744073709551616) :
    TimAt xs (zs.set (k + n2) c) (k + 1) n2 Y N := by
  have hl := m.len
  refine ⟨by rw [List.length_set]; exact hl, set_lt m.lt hc, ?_, ?_⟩
  · have h1 := nv_set 18446744073709551616 zs (k + n2) c (by omega)
    rw [m.rest _ (Nat.le_refl _), h.zero _ (Nat.le_refl _), Nat.mul_zero, Nat.add_zero, m.val, h.val, nv_take_all _ ys _ (by omega), dy.1] at h1
    rw [h1, nv_take_succ, Nat.add_mul, ← hx, Nat.mul_assoc]
  · intro j hj
    rw [getD_set _ _ _ _ (by omega), if_neg (by omega), m.rest j (by omega)]
    exact h.zero j (by omega)

end Go.Proofs.YtnjndegdhhmbaaaGreat
namespace Go.Proofs.YtnjndegdhhmbaaaGreat
open Go.RowKit
set_option linter.unusedVariables false

/-- all but one block is as it was -/
structure Gx (g : Nat) (w w' : World) : Prop where
  os : w'.os = w.os
  output : w'.output = w.output
  size : w.heap.size ≤ w'.heap.size
  block : ∀ k, k < w.heap.size → k ≠ g → w'.heap[k]? = w.heap[k]?
theorem Gx.refl (g : Nat) (w : World) : Gx g w w := ⟨rfl, rfl, Nat.le_refl _, fun _ _ _ => rfl⟩
theorem Gx.trans {g : Nat} {a b c : World} (h : Gx g a b) (k : Gx g b c) : Gx g a c :=
  ⟨k.os.trans h.os, k.output.trans h.output, Nat.le_trans h.size k.size, fun i hi hn => (k.block i (Nat.lt_of_lt_of_le hi h.size) hn).trans (h.block i hi hn)⟩
theorem Gx.of_gr {g : Nat} {w w' : World} (h : Gr w w') : Gx g w w' := ⟨h.os, h.output, h.size, fun k hk _ => h.block k hk⟩
theorem Gx.setCell {g : Nat} {a w : World} (h : Gx g a w) {p : Addr} (hp : p.block = g) (u : Value) : Gx g a (w.setCell p u) :=
  ⟨h.os, h.output, by simpa [World.setCell] using h.size, fun k hk hn => (Below.heap_setCell _ _ _ _ (by omega)).trans (h.block k hk hn)⟩
theorem Gx.owns {g : Nat} {w w' : World} (h : Gx g w w') {base : Nat} {e : TypeId} {size : Nat} {f : Nat} {m c : Nat} {n : Nat} {xs : List Value} (hf : f ≠ g) (ho : w.ownsRow base e size (.slice (some ⟨f, 0, none⟩) m c) n xs) : w'.ownsRow base e size (.slice (some ⟨f, 0, none⟩) m c) n xs := by
  refine ⟨ho.1, ?_⟩
  rcases ho.2 with hn | ⟨g', cap, cur, e1, hb, hgg, rest⟩
  · exact .inl hn
  · refine .inr ⟨g', cap, cur, e1, hb, ?_, rest⟩
    have : g' = f := by
      simp only [Value.slice.injEq, Option.some.injEq, Addr.mk.injEq] at e1
      exact e1.1.1.symm
    rw [h.block g' ?_ (by omega)]
    · exact hgg
    · refine Nat.lt_of_not_le fun hle => ?_
      rw [Array.getElem?_eq_none hle] at hgg
      cases hgg
/-- taken off: x times the first j limbs, from the place k on -/
structure TakAt (ys zs zs0 : List Nat) (k j x c N : Nat) : Prop where
  len : zs.length = N
  lt : ∀ z ∈ zs, z < 18446744073709551616
  val : nv 18446744073709551616 zs + 18446744073709551616 ^ k * (x * nv 18446744073709551616 (ys.take j)) = nv 18446744073709551616 zs0 + 18446744073709551616 ^ (k + j) * c
  rest : ∀ i, k + j ≤ i → zs.getD i 0 = zs0.getD i 0
theorem tak_step {B P Q Z Z' Z0 A x y o c lo hi new bo : Nat} (h : Z + A = Z0 + P * c) (hz : Z' + P * o = Z + P * new) (hn : new + lo = o + B * bo) (hs : x * y + c = lo + B * hi) (hQ : Q = P * B) : Z' + (A + P * (x * y)) = Z0 + Q * (hi + bo) := by
  have h1 : P * new + P * lo = P * o + P * (B * bo) := by rw [← Nat.mul_add, hn, Nat.mul_add]
  have h2 : P * (x * y) + P * c = P * lo + P * (B * hi) := by rw [← Nat.mul_add, hs, Nat.mul_add]
  have h3 : Q * (hi + bo) = P * (B * hi) + P * (B * bo) := by rw [hQ, Nat.mul_assoc, Nat.mul_add, Nat.mul_add]
  omega
theorem TakAt.next {ys zs zs0 : List Nat} {k j x c N y o lo hi new bo : Nat} (h : TakAt ys zs zs0 k j x c N) (hj : k + j < N) (ho : o = zs.getD (k + j) 0) (hy : y = ys.getD j 0) (hn : new + lo = o + 18446744073709551616 * bo) (hs : x * y + c = lo + 18446744073709551616 * hi) (hb : new < 18446744073709551616) :
    TakAt ys (zs.set (k + j) new) zs0 k (j + 1) x (hi + bo) N := by
  have hl := h.len
  refine ⟨by rw [List.length_set]; exact hl, set_lt h.lt hb, ?_, ?_⟩
  · have s1 := nv_set 18446744073709551616 zs (k + j) new (by omega)
    rw [← ho] at s1
    have := tak_step h.val s1 hn hs (Q := 18446744073709551616 ^ (k + (j + 1))) (by rw [← Nat.add_assoc, Nat.pow_succ])
    rw [nv_take_succ, ← hy, Nat.mul_add, Nat.mul_add]
    rw [Nat.pow_add, Nat.mul_assoc] at this
    rw [← this]
    congr 2
    ac_rfl
  · intro i hi
    rw [getD_set _ _ _ _ (by omega), if_neg (by omega)]
    exact h.rest i (by omega)
/-- the last limb, of which the carry is taken -/
theorem TakAt.last {ys zs zs0 : List Nat} {k j x c N o new bo : Nat} (h : TakAt ys zs zs0 k j x c N) (hj : k + j < N) (ho : o = zs.getD (k + j) 0) (hn : new + c = o + 18446744073709551616 * bo) (hl : ys.length ≤ j) (hb : new < 18446744073709551616) :
    (zs.set (k + j) new).length = N ∧ (∀ z ∈ zs.set (k + j) new, z < 18446744073709551616) ∧ nv 18446744073709551616 (zs.set (k + j) new) + 18446744073709551616 ^ k * (x * nv 18446744073709551616 ys) = nv 18446744073709551616 zs0 + 18446744073709551616 ^ (k + j + 1) * bo ∧ ∀ i, k + j + 1 ≤ i → (zs.set (k + j) new).getD i 0 = zs0.getD i 0 := by
  have hz := h.len
  refine ⟨by rw [List.length_set]; exact hz, set_lt h.lt hb, ?_, ?_⟩
  · have s1 := nv_set 18446744073709551616 zs (k + j) new (by omega)
    rw [← ho] at s1
    have := tak_step (x := 0) (y := 0) (lo := c) (hi := 0) h.val s1 hn (by omega) (Q := 18446744073709551616 ^ (k + j + 1)) (by rw [Nat.pow_succ])
    rw [nv_take_all _ _ _ hl, Nat.zero_mul, Nat.mul_zero, Nat.add_zero, Nat.zero_add] at this
    exact this
  · intro i hi
    rw [getD_set _ _ _ _ (by omega), if_neg (by omega)]
    exact h.rest i (by omega)
/-- put to: the first j limbs, from the place k on -/
structure PutAt (ys zs zs0 : List Nat) (k j c N : Nat) : Prop where
  len : zs.length = N
  lt : ∀ z ∈ zs, z < 18446744073709551616
  val : nv 18446744073709551616 zs + 18446744073709551616 ^ (k + j) * c = nv 18446744073709551616 zs0 + 18446744073709551616 ^ k * nv 18446744073709551616 (ys.take j)
  rest : ∀ i, k + j ≤ i → zs.getD i 0 = zs0.getD i 0
theorem PutAt.next {ys zs zs0 : List Nat} {k j c N y o : Nat} (h : PutAt ys zs zs0 k j c N) (hj : k + j < N) (ho : o = zs.getD (k + j) 0) (hy : y = ys.getD j 0) :
    PutAt ys (zs.set (k + j) ((o + y + c) % 18446744073709551616)) zs0 k (j + 1) ((o + y + c) / 18446744073709551616) N := by
  have hl := h.len
  refine ⟨by rw [List.length_set]; exact hl, set_lt h.lt (Nat.mod_lt _ (by omega)), ?_, ?_⟩
  · have s1 := nv_set 18446744073709551616 zs (k + j) ((o + y + c) % 18446744073709551616) (by omega)
    rw [← ho] at s1
    have h1 := mul_step (B := 18446744073709551616) (x := y) (y := 1) (o := o) (c := c) h.val (by rw [Nat.mul_one, Nat.add_comm y o]; exact s1)
    rw [Nat.mul_one, Nat.add_comm y o] at h1
    rw [← Nat.add_assoc, Nat.pow_succ, h1, nv_take_succ, ← hy, Nat.mul_add, Nat.pow_add, ← Nat.add_assoc, Nat.mul_assoc]
  · intro i hi
    rw [getD_set _ _ _ _ (by omega), if_neg (by omega)]
    exact h.rest i (by omega)
theorem PutAt.start {ys zs : List Nat} {k N : Nat} (hl : zs.length = N) (h : ∀ z ∈ zs, z < 18446744073709551616) : PutAt ys zs zs k 0 0 N := ⟨hl, h, by simp [nv], fun _ _ => rfl⟩
theorem TakAt.start {ys zs : List Nat} {k x N : Nat} (hl : zs.length = N) (h : ∀ z ∈ zs, z < 18446744073709551616) : TakAt ys zs zs k 0 x 0 N := ⟨hl, h, by simp [nv], fun _ _ => rfl⟩
end Go.Proofs.YtnjndegdhhmbaaaGreat
namespace Go.Proofs.YtnjndegdhhmbaaaGreat
open Go.RowKit
set_option linter.unusedVariables false

end Go.Proofs.YtnjndegdhhmbaaaGreat
namespace Go.Proofs.YtnjndegdhhmbaaaGreat
open Go.RowKit
set_option linter.unusedVariables false

end Go.Proofs.YtnjndegdhhmbaaaGreat
