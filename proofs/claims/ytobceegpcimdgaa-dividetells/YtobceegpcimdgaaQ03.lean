import Derived.Test.YtobceegpcimdgaaQ01
import Derived.Test.YtobceegpcimdgaaQ02
namespace Go.Proofs.Ytobceegpcimdgaa
open Go.RowKit
set_option linter.unusedVariables false

/-- all but one block is as it was -/
structure Gx (g : Nat) (w w' : World) : Prop where
  os : w'.os = w.os
  output : w'.output = w.output
  size : w.heap.size ≤ w'.heap.size
  block : ∀ k, k < w.heap.size → k ≠ g → w'.heap[k]? = w.heap[k]?
theorem Gx.refl (g : Nat) (w : World) : Gx g w w := ⟨rfl, rfl, Nat.le_refl _, fun _ _ _ => rfl⟩
theorem Gx.trans {g : Nat} {a b c : World} (h : Gx g a b) (k : Gx g b c) : Gx g a c :=
  ⟨k.os.trans h.os, k.output.trans h.output, Nat.le_trans h.size k.size, fun i hi hn => (k.block i (Nat.lt_of_lt_of_le hi h.size) hn).trans (h.block i hi hn)⟩
theorem Gx.of_gr {g : Nat} {w w' : World} (h : Gr w w') : Gx g w w' := ⟨h.os, h.output, h.size, fun k hk _ => h.block k hk⟩
theorem Gx.setCell {g : Nat} {a w : World} (h : Gx g a w) {p : Addr} (hp : p.block = g) (u : Value) : Gx g a (w.setCell p u) :=
  ⟨h.os, h.output, by simpa [World.setCell] using h.size, fun k hk hn => (Below.heap_setCell _ _ _ _ (by omega)).trans (h.block k hk hn)⟩
theorem Gx.owns {g : Nat} {w w' : World} (h : Gx g w w') {base : Nat} {e : TypeId} {size : Nat} {f : Nat} {m c : Nat} {n : Nat} {xs : List Value} (hf : f ≠ g) (ho : w.ownsRow base e size (.slice (some ⟨f, 0, none⟩) m c) n xs) : w'.ownsRow base e size (.slice (some ⟨f, 0, none⟩) m c) n xs := by
  refine ⟨ho.1, ?_⟩
  rcases ho.2 with hn | ⟨g', cap, cur, e1, hb, hgg, rest⟩
  · exact .inl hn
  · refine .inr ⟨g', cap, cur, e1, hb, ?_, rest⟩
    have : g' = f := by
      simp only [Value.slice.injEq, Option.some.injEq, Addr.mk.injEq] at e1
      exact e1.1.1.symm
    rw [h.block g' ?_ (by omega)]
    · exact hgg
    · refine Nat.lt_of_not_le fun hle => ?_
      rw [Array.getElem?_eq_none hle] at hgg
      cases hgg
/-- taken off: x times the first j limbs, from the place k on -/
structure TakAt (ys zs zs0 : List Nat) (k j x c N : Nat) : Prop where
  len : zs.length = N
  lt : ∀ z ∈ zs, z < 18446744073709551616
  val : nv 18446744073709551616 zs + 18446744073709551616 ^ k * (x * nv 18446744073709551616 (ys.take j)) = nv 18446744073709551616 zs0 + 18446744073709551616 ^ (k + j) * c
  rest : ∀ i, k + j ≤ i → zs.getD i 0 = zs0.getD i 0
theorem tak_step {B P Q Z Z' Z0 A x y o c lo hi new bo : Nat} (h : Z + A = Z0 + P * c) (hz : Z' + P * o = Z + P * new) (hn : new + lo = o + B * bo) (hs : x * y + c = lo + B * hi) (hQ : Q = P * B) : Z' + (A + P * (x * y)) = Z0 + Q * (hi + bo) := by
  have h1 : P * new + P * lo = P * o + P * (B * bo) := by rw [← Nat.mul_add, hn, Nat.mul_add]
  have h2 : P * (x * y) + P * c = P * lo + P * (B * hi) := by rw [← Nat.mul_add, hs, Nat.mul_add]
  have h3 : Q * (hi + bo) = P * (B * hi) + P * (B * bo) := by rw [hQ, Nat.mul_assoc, Nat.mul_add, Nat.mul_add]
  omega
theorem TakAt.next {ys zs zs0 : List Nat} {k j x c N y o lo hi new bo : Nat} (h : TakAt ys zs zs0 k j x c N) (hj : k + j < N) (ho : o = zs.getD (k + j) 0) (hy : y = ys.getD j 0) (hn : new + lo = o + 18446744073709551616 * bo) (hs : x * y + c = lo + 18446744073709551616 * hi) (hb : new < 18446744073709551616) :
    TakAt ys (zs.set (k + j) new) zs0 k (j + 1) x (hi + bo) N := by
  have hl := h.len
  refine ⟨by rw [List.length_set]; exact hl, set_lt h.lt hb, ?_, ?_⟩
  · have s1 := nv_set 18446744073709551616 zs (k + j) new (by omega)
    rw [← ho] at s1
    have := tak_step h.val s1 hn hs (Q := 18446744073709551616 ^ (k + (j + 1))) (by rw [← Nat.add_assoc, Nat.pow_succ])
    rw [nv_take_succ, ← hy, Nat.mul_add, Nat.mul_add]
    rw [Nat.pow_add, Nat.mul_assoc] at this
    rw [← this]
    congr 2
    ac_rfl
  · intro i hi
    rw [getD_set _ _ _ _ (by omega), if_neg (by omega)]
    exact h.rest i (by omega)
/-- the last limb, of which the carry is taken -/
theorem TakAt.last {ys zs zs0 : List Nat} {k j x c N o new bo : Nat} (h : TakAt ys zs zs0 k j x c N) (hj : k + j < N) (ho : o = zs.getD (k + j) 0) (hn : new + c = o + 18446744073709551616 * bo) (hl : ys.length ≤ j) (hb : new < 18446744073709551616) :
    (zs.set (k + j) new).length = N ∧ (∀ z ∈ zs.set (k + j) new, z < 18446744073709551616) ∧ nv 18446744073709551616 (zs.set (k + j) new) + 18446744073709551616 ^ k * (x * nv 18446744073709551616 ys) = nv 18446744073709551616 zs0 + 18446744073709551616 ^ (k + j + 1) * bo ∧ ∀ i, k + j + 1 ≤ i → (zs.set (k + j) new).getD i 0 = zs0.getD i 0 := by
  have hz := h.len
  refine ⟨by rw [List.length_set]; exact hz, set_lt h.lt hb, ?_, ?_⟩
  · have s1 := nv_set 18446744073709551616 zs (k + j) new (by omega)
    rw [← ho] at s1
    have := tak_step (x := 0) (y := 0) (lo := c) (hi := 0) h.val s1 hn (by omega) (Q := 18446744073709551616 ^ (k + j + 1)) (by rw [Nat.pow_succ])
    rw [nv_take_all _ _ _ hl, Nat.zero_mul, Nat.mul_zero, Nat.add_zero, Nat.zero_add] at this
    exact this
  · intro i hi
    rw [getD_set _ _ _ _ (by omega), if_neg (by omega)]
    exact h.rest i (by omega)
/-- put to: the first j limbs, from the place k on -/
structure PutAt (ys zs zs0 : List Nat) (k j c N : Nat) : Prop where
  len : zs.length = N
  lt : ∀ z ∈ zs, z < 18446744073709551616
  val : nv 18446744073709551616 zs + 18446744073709551616 ^ (k + j) * c = nv 18446744073709551616 zs0 + 18446744073709551616 ^ k * nv 18446744073709551616 (ys.take j)
  rest : ∀ i, k + j ≤ i → zs.getD i 0 = zs0.getD i 0
theorem PutAt.next {ys zs zs0 : List Nat} {k j c N y o : Nat} (h : PutAt ys zs zs0 k j c N) (hj : k + j < N) (ho : o = zs.getD (k + j) 0) (hy : y = ys.getD j 0) :
    PutAt ys (zs.set (k + j) ((o + y + c) % 18446744073709551616)) zs0 k (j + 1) ((o + y + c) / 18446744073709551616) N := by
  have hl := h.len
  refine ⟨by rw [List.length_set]; exact hl, set_lt h.lt (Nat.mod_lt _ (by omega)), ?_, ?_⟩
  · have s1 := nv_set 18446744073709551616 zs (k + j) ((o + y + c) % 18446744073709551616) (by omega)
    rw [← ho] at s1
    have h1 := mul_step (B := 18446744073709551616) (x := y) (y := 1) (o := o) (c := c) h.val (by rw [Nat.mul_one, Nat.add_comm y o]; exact s1)
    rw [Nat.mul_one, Nat.add_comm y o] at h1
    rw [← Nat.add_assoc, Nat.pow_succ, h1, nv_take_succ, ← hy, Nat.mul_add, Nat.pow_add, ← Nat.add_assoc, Nat.mul_assoc]
  · intro i hi
    rw [getD_set _ _ _ _ (by omega), if_neg (by omega)]
    exact h.rest i (by omega)
theorem PutAt.start {ys zs : List Nat} {k N : Nat} (hl : zs.length = N) (h : ∀ z ∈ zs, z < 18446744073709551616) : PutAt ys zs zs k 0 0 N := ⟨hl, h, by simp [nv], fun _ _ => rfl⟩
theorem TakAt.start {ys zs : List Nat} {k x N : Nat} (hl : zs.length = N) (h : ∀ z ∈ zs, z < 18446744073709551616) : TakAt ys zs zs k 0 x 0 N := ⟨hl, h, by simp [nv], fun _ _ => rfl⟩
end Go.Proofs.Ytobceegpcimdgaa
namespace Go.Proofs.Ytobceegpcimdgaa
open Go.RowKit
set_option linter.unusedVariables false

/-! THE STATEMENT'S OWN LONG DIVISION: numbers -/
/-- times: the first i digits -/
structure TmAt (xs zs : List Nat) (i b c m : Nat) : Prop where
  len : zs.length = m
  lt : ∀ z ∈ zs, z < 4294967296
  val : nv 4294967296 zs + 4294967296 ^ i * c = b * nv 4294967296 (xs.take i)
  zero : ∀ j, i ≤ j → zs.getD j 0 = 0
theorem getD_rep (m j : Nat) : (List.replicate m 0).getD j 0 = 0 := by
  rw [List.getD_eq_getElem?_getD, List.getElem?_replicate]; split <;> rfl
theorem TmAt.start (xs : List Nat) (b m : Nat) : TmAt xs (List.replicate m 0) 0 b 0 m :=
  ⟨by simp, (fun z hz => by rw [List.mem_replicate] at hz; omega), by simp [nv, nv_zeros], fun j _ => getD_rep m j⟩
theorem TmAt.next {xs zs : List Nat} {i b c m x s : Nat} (h : TmAt xs zs i b c m) (hi : i < m) (hx : x = xs.getD i 0) (hs : s = x * b + c) : TmAt xs (zs.set i (s % 4294967296)) (i + 1) b (s / 4294967296) m := by
  have hl := h.len
  refine ⟨by rw [List.length_set]; exact hl, set_lt h.lt (Nat.mod_lt _ (by omega)), ?_, fun j hj => ?_⟩
  · have s1 := nv_set 4294967296 zs i (s % 4294967296) (by omega)
    rw [h.zero i (Nat.le_refl _), Nat.mul_zero, Nat.add_zero] at s1
    rw [s1, nv_take_succ, ← hx, Nat.pow_succ, hs]
    exact up_step h.val _ rfl
  · rw [getD_set _ _ _ _ (by omega), if_neg (by omega)]
    exact h.zero j (by omega)
theorem TmAt.done {xs zs : List Nat} {b c m : Nat} (h : TmAt xs zs m b c m) (hl : xs.length ≤ m) (hf : b * nv 4294967296 xs < 4294967296 ^ m) : nv 4294967296 zs = b * nv 4294967296 xs := by
  have hv := h.val
  rw [nv_take_all _ _ _ hl] at hv
  rcases Nat.eq_zero_or_pos c with rfl | hc
  · simpa using hv
  · have := Nat.mul_le_mul_left (4294967296 ^ m) hc
    omega
theorem nv_dropz {B : Nat} {ds : List Nat} (hB : 0 < B) (hd : ∀ d ∈ ds, d < B) (q : Nat) (hq : q ≤ ds.length) : nv B ds / B ^ q = nv B (ds.drop q) := by
  have h1 : nv B ds = nv B (ds.take q) + B ^ q * nv B (ds.drop q) := by
    conv => lhs; rw [← List.take_append_drop q ds, nv_append, List.length_take, Nat.min_eq_left hq]
  have h2 := nv_lt B (ds.take q) (fun d h => hd d (List.mem_of_mem_take h))
  rw [List.length_take, Nat.min_eq_left hq] at h2
  rw [h1, Nat.add_comm, Nat.mul_add_div (Nat.pow_pos hB), Nat.div_eq_of_lt h2, Nat.add_zero]
/-- digits from a place on -/
theorem cut_val {zs : List Nat} {k m : Nat} (hz : ∀ z ∈ zs, z < 4294967296) (hN : k + m ≤ zs.length) (h0 : ∀ i, k + m ≤ i → zs.getD i 0 = 0) : nv 4294967296 ((zs.drop k).take m) = nv 4294967296 zs / 4294967296 ^ k := by
  rw [nv_dropz (by omega) hz k (by omega)]
  refine nv_take_zeros _ _ _ fun i h1 h2 => ?_
  rw [List.getD_eq_getElem?_getD, List.getElem?_drop, ← List.getD_eq_getElem?_getD]
  exact h0 _ (by omega)
theorem cut_at {zs : List Nat} {k m j : Nat} (hj : j < m) : ((zs.drop k).take m).getD j 0 = zs.getD (k + j) 0 := by
  rw [List.getD_eq_getElem?_getD, List.getElem?_take_of_lt hj, List.getElem?_drop, ← List.getD_eq_getElem?_getD]
theorem cut_lt {zs : List Nat} {k m : Nat} (hz : ∀ z ∈ zs, z < 4294967296) : ∀ z ∈ (zs.drop k).take m, z < 4294967296 := fun z h => hz z (List.mem_of_mem_drop (List.mem_of_mem_take h))
theorem cut_len {zs : List Nat} {k m : Nat} (hN : k + m ≤ zs.length) : ((zs.drop k).take m).length = m := by
  rw [List.length_take, List.length_drop]; omega
theorem nv_small {zs : List Nat} {k : Nat} (hz : ∀ z ∈ zs, z < 4294967296) (h0 : ∀ i, k ≤ i → zs.getD i 0 = 0) : nv 4294967296 zs < 4294967296 ^ k := by
  rw [← nv_take_zeros 4294967296 zs k (fun i h _ => h0 i h)]
  refine Nat.lt_of_lt_of_le (nv_lt _ _ (fun z h => hz z (List.mem_of_mem_take h))) (Nat.pow_le_pow_right (by omega) ?_)
  rw [List.length_take]; omega
theorem nv_zero_above {zs : List Nat} {k : Nat} (hz : ∀ z ∈ zs, z < 4294967296) (h : nv 4294967296 zs < 4294967296 ^ k) : ∀ i, k ≤ i → zs.getD i 0 = 0 := fun i hi => by
  by_cases hl : i < zs.length
  · have e := nv_take_succ 4294967296 zs i
    have h1 : nv 4294967296 (zs.take (i + 1)) ≤ nv 4294967296 zs := by
      have := nv_append 4294967296 (zs.take (i + 1)) (zs.drop (i + 1))
      rw [List.take_append_drop] at this
      omega
    have h2 : 4294967296 ^ k ≤ 4294967296 ^ i := Nat.pow_le_pow_right (by omega) hi
    rcases Nat.eq_zero_or_pos (zs.getD i 0) with h3 | h3
    · exact h3
    · have := Nat.mul_le_mul_left (4294967296 ^ i) h3
      omega
  · rw [List.getD_eq_getElem?_getD, List.getElem?_eq_none (by omega)]; rfl
/-- taken off, digit by digit -/
structure SbAt (ps zs zs0 : List Nat) (k j b N : Nat) : Prop where
  len : zs.length = N
  lt : ∀ z ∈ zs, z < 4294967296
  le : b ≤ 1
  val : nv 4294967296 zs + 4294967296 ^ k * nv 4294967296 (ps.take j) = nv 4294967296 zs0 + 4294967296 ^ (k + j) * b
  rest : ∀ i, k + j ≤ i → zs.getD i 0 = zs0.getD i 0
theorem SbAt.start {ps zs : List Nat} {k N : Nat} (hl : zs.length = N) (h : ∀ z ∈ zs, z < 4294967296) : SbAt ps zs zs k 0 0 N := ⟨hl, h, by omega, by simp [nv], fun _ _ => rfl⟩
theorem SbAt.next {ps zs zs0 : List Nat} {k j b N o p s : Nat} (h : SbAt ps zs zs0 k j b N) (hj : k + j < N) (ho : o = zs.getD (k + j) 0) (hp : p = ps.getD j 0) (bo : o < 4294967296) (bp : p < 4294967296) (hs : s + p + b = 4294967296 + o) :
    SbAt ps (zs.set (k + j) (s % 4294967296)) zs0 k (j + 1) (1 - s / 4294967296) N := by
  have hl := h.len
  have hb := h.le
  refine ⟨by rw [List.length_set]; exact hl, set_lt h.lt (Nat.mod_lt _ (by omega)), by omega, ?_, ?_⟩
  · have s1 := nv_set 4294967296 zs (k + j) (s % 4294967296) (by omega)
    rw [← ho] at s1
    have := tak_step (B := 4294967296) (x := p) (y := 1) (lo := p + b) (hi := 0) (bo := 1 - s / 4294967296) h.val s1 (by omega) (by omega) (Q := 4294967296 ^ (k + (j + 1))) (by rw [← Nat.add_assoc, Nat.pow_succ])
    rw [nv_take_succ, ← hp, Nat.mul_add]
    rw [Nat.mul_one, Nat.zero_add, Nat.pow_add, Nat.mul_assoc] at this
    exact this
  · intro i hi
    rw [getD_set _ _ _ _ (by omega), if_neg (by omega)]
    exact h.rest i (by omega)
theorem SbAt.done {ps zs zs0 : List Nat} {k m b N : Nat} (h : SbAt ps zs zs0 k m b N) (hl : ps.length ≤ m) (h0 : ∀ i, k + m ≤ i → zs0.getD i 0 = 0) (hle : 4294967296 ^ k * nv 4294967296 ps ≤ nv 4294967296 zs0) : nv 4294967296 zs + 4294967296 ^ k * nv 4294967296 ps = nv 4294967296 zs0 := by
  have hv := h.val
  rw [nv_take_all _ _ _ hl] at hv
  have hb := h.le
  have hz := nv_small (k := k + m) h.lt (fun i hi => by rw [h.rest i hi]; exact h0 i hi)
  rcases Nat.eq_zero_or_pos b with rfl | hc
  · simpa using hv
  · obtain rfl : b = 1 := by omega
    omega
/-- the digit that is guessed is not too small -/
theorem guess_ge {us vs : List Nat} {k m : Nat} (hu : ∀ z ∈ us, z < 4294967296) (hv : ∀ z ∈ vs, z < 4294967296) (hm : vs.length = m + 1) (hN : k + (m + 2) ≤ us.length) (h0 : ∀ i, k + (m + 2) ≤ i → us.getD i 0 = 0) (ht : 0 < vs.getD m 0) :
    nv 4294967296 us / 4294967296 ^ k / nv 4294967296 vs ≤ (us.getD (k + (m + 1)) 0 * 4294967296 + us.getD (k + m) 0) / vs.getD m 0 := by
  rw [← cut_val hu hN h0]
  refine three_le (B := 4294967296) (P := 4294967296 ^ m) (Nat.pow_pos (by omega)) ?_ ?_ ht
  · have e1 := nv_take_succ 4294967296 (us.drop k) (m + 1)
    have e2 := nv_take_succ 4294967296 (us.drop k) m
    have g1 : (us.drop k).getD (m + 1) 0 = us.getD (k + (m + 1)) 0 := by rw [List.getD_eq_getElem?_getD, List.getElem?_drop, ← List.getD_eq_getElem?_getD]
    have g2 : (us.drop k).getD m 0 = us.getD (k + m) 0 := by rw [List.getD_eq_getElem?_getD, List.getElem?_drop, ← List.getD_eq_getElem?_getD]
    have hlow : nv 4294967296 ((us.drop k).take m) < 4294967296 ^ m := by
      have := nv_lt 4294967296 ((us.drop k).take m) (cut_lt hu)
      rwa [cut_len (by omega)] at this
    rw [e1, e2, g1, g2, Nat.pow_succ]
    generalize us.getD (k + (m + 1)) 0 = a
    generalize us.getD (k + m) 0 = c
    generalize nv 4294967296 ((us.drop k).take m) = l at *
    generalize 4294967296 ^ m = P at *
    have : (a * 4294967296 + c + 1) * P = P * c + P * 4294967296 * a + P := by
      rw [Nat.add_mul, Nat.add_mul, Nat.one_mul, Nat.mul_comm c P, Nat.mul_comm (a * 4294967296) P, Nat.mul_comm a, ← Nat.mul_assoc]; omega
    omega
  · have e := nv_take_succ 4294967296 vs m
    rw [nv_take_all _ _ _ (by omega)] at e
    rw [e, Nat.mul_comm]; omega
/-- long: the digits that are told, what is left -/
structure LgAt (us outs : List Nat) (k L M V N : Nat) : Prop where
  ulen : us.length = L
  olen : outs.length = M
  ult : ∀ z ∈ us, z < 4294967296
  olt : ∀ z ∈ outs, z < 4294967296
  val : nv 4294967296 outs * V + nv 4294967296 us = N
  lt : nv 4294967296 us < 4294967296 ^ k * V
  zero : ∀ j, j < k → outs.getD j 0 = 0
theorem LgAt.next {us us' outs : List Nat} {k L M V N t : Nat} (h : LgAt us outs (k + 1) L M V N) (hk : k < M) (hV : 0 < V) (hl : us'.length = L) (hlt : ∀ z ∈ us', z < 4294967296) (ht : t < 4294967296) (hv : nv 4294967296 us' + 4294967296 ^ k * (t * V) = nv 4294967296 us) (hd : nv 4294967296 us / 4294967296 ^ k / V ≤ t) : LgAt us' (outs.set k t) k L M V N := by
  obtain ⟨_, hlt2⟩ := limb_done (Nat.pow_pos (by omega : 0 < 4294967296)) hV hv hd
  have ho := h.olen
  refine ⟨hl, by rw [List.length_set]; exact ho, hlt, set_lt h.olt ht, ?_, hlt2, fun j hj => ?_⟩
  · have s1 := nv_set 4294967296 outs k t (by omega)
    rw [h.zero k (by omega), Nat.mul_zero, Nat.add_zero] at s1
    rw [s1, Nat.add_mul, ← h.val, ← hv, Nat.mul_assoc]
    omega
  · rw [getD_set _ _ _ _ (by omega), if_neg (by omega)]
    exact h.zero j (by omega)
theorem LgAt.done {us outs : List Nat} {L M V N : Nat} (h : LgAt us outs 0 L M V N) (hV : 0 < V) : nv 4294967296 outs = N / V ∧ nv 4294967296 us = N % V := by
  have hl := h.lt
  rw [Nat.pow_zero, Nat.one_mul] at hl
  have hv := h.val
  rw [← hv, Nat.mul_comm]
  exact ⟨by rw [Nat.mul_add_div hV, Nat.div_eq_of_lt hl, Nat.add_zero], by rw [Nat.mul_add_mod, Nat.mod_eq_of_lt hl]⟩
theorem scale_ok {t : Nat} (h1 : 0 < t) (h2 : t < 4294967296) : 0 < 4294967296 / (t + 1) ∧ 4294967296 / (t + 1) ≤ 2147483648 ∧ 4294967296 / (t + 1) * (t + 1) ≤ 4294967296 :=
  ⟨Nat.div_pos (by omega) (by omega), by
    have := Nat.div_le_div_left (a := 4294967296) (show 2 ≤ t + 1 by omega) (by omega)
    omega, Nat.div_mul_le_self _ _⟩
theorem scale_fits {ys : List Nat} {m : Nat} (hy : ∀ z ∈ ys, z < 4294967296) (hm : ys.length = m + 1) (h1 : 0 < ys.getD m 0) : 4294967296 / (ys.getD m 0 + 1) * nv 4294967296 ys < 4294967296 ^ (m + 1) := by
  have ht := getD_lt (by omega) hy m
  obtain ⟨s1, s2, s3⟩ := scale_ok h1 ht
  have e := nv_take_succ 4294967296 ys m
  rw [nv_take_all _ _ _ (by omega)] at e
  have hlow : nv 4294967296 (ys.take m) < 4294967296 ^ m := by
    have := nv_lt 4294967296 (ys.take m) (fun z h => hy z (List.mem_of_mem_take h))
    rwa [List.length_take, Nat.min_eq_left (by omega)] at this
  generalize ys.getD m 0 = t at *
  generalize 4294967296 / (t + 1) = c at *
  have h2 : nv 4294967296 ys < 4294967296 ^ m * (t + 1) := by rw [e, Nat.mul_add, Nat.mul_one]; omega
  have h3 := Nat.mul_lt_mul_of_pos_left h2 s1
  refine Nat.lt_of_lt_of_le h3 ?_
  rw [Nat.mul_left_comm, Nat.pow_succ]
  exact Nat.mul_le_mul_left _ s3
end Go.Proofs.Ytobceegpcimdgaa
namespace Go.Proofs.Ytobceegpcimdgaa
open Go.RowKit
set_option linter.unusedVariables false

/-! DIGITS OF A NUMBER, BY QUOTIENTS -/
theorem Dg.digit {x : Nat} {xs : List Nat} (h : Dg 18446744073709551616 x xs) (j : Nat) : xs.getD j 0 = x / 18446744073709551616 ^ j % 18446744073709551616 := by
  by_cases hj : j < xs.length
  · have h1 := nv_split 18446744073709551616 xs j hj
    have h2 := nv_lt 18446744073709551616 (xs.take j) (fun y hy => h.2.1 y (List.mem_of_mem_take hy))
    rw [List.length_take, Nat.min_eq_left (by omega)] at h2
    have h3 := getD_lt (by omega) h.2.1 j
    rw [h.1] at h1
    rw [h1, Nat.add_mul_div_left _ _ (Nat.pow_pos (by omega)), Nat.div_eq_of_lt h2, Nat.zero_add, Nat.add_mul_mod_self_left, Nat.mod_eq_of_lt h3]
  · rw [getD_out (by omega), Nat.div_eq_of_lt]
    exact Nat.lt_of_lt_of_le h.upper (Nat.pow_le_pow_right (by omega) (by omega))

/-- one limb of a shifted number -/
theorem sh_digit {Q r : Nat} (hr : r < 64) : Q / 2 ^ (64 - r) % 18446744073709551616 = Q / 18446744073709551616 % 18446744073709551616 * 2 ^ r % 18446744073709551616 + Q % 18446744073709551616 / 2 ^ (64 - r) := by
  have e : (18446744073709551616 : Nat) = 2 ^ (64 - r) * 2 ^ r := by rw [← Nat.pow_add, show 64 - r + r = 64 by omega]
  have h0 : Q % 18446744073709551616 < 18446744073709551616 := Nat.mod_lt _ (by omega)
  have h1 : Q % 18446744073709551616 + 18446744073709551616 * (Q / 18446744073709551616) = Q := Nat.mod_add_div _ _
  have h2 : Q / 18446744073709551616 % 18446744073709551616 + 18446744073709551616 * (Q / 18446744073709551616 / 18446744073709551616) = Q / 18446744073709551616 := Nat.mod_add_div _ _
  have h3 : Q / 18446744073709551616 % 18446744073709551616 < 18446744073709551616 := Nat.mod_lt _ (by omega)
  generalize Q / 18446744073709551616 / 18446744073709551616 = t at *
  generalize Q / 18446744073709551616 % 18446744073709551616 = q1 at *
  generalize Q % 18446744073709551616 = q0 at *
  have hA := shl_mod hr h3
  have hB := shr_lt hr h0
  have hp := Nat.two_pow_pos (64 - r)
  have key : Q / 2 ^ (64 - r) = q0 / 2 ^ (64 - r) + 2 ^ r * (q1 + 18446744073709551616 * t) := by
    rw [← h1, ← h2]
    generalize q1 + 18446744073709551616 * t = u
    conv => lhs; rw [show q0 + 18446744073709551616 * u = q0 + 2 ^ (64 - r) * (2 ^ r * u) by rw [← Nat.mul_assoc, ← e]]
    rw [Nat.add_mul_div_left _ _ hp]
  rw [key, Nat.mul_add, ← Nat.add_assoc, Nat.mul_left_comm, Nat.add_mul_mod_self_left, hA]
  generalize q0 / 2 ^ (64 - r) = a at *
  have h4 : 2 ^ r * q1 = q1 % 2 ^ (64 - r) * 2 ^ r + 18446744073709551616 * (q1 / 2 ^ (64 - r)) := by
    rw [← hA, Nat.mul_comm (2 ^ r), shl_parts hr h3]
  rw [h4, ← Nat.add_assoc, Nat.add_mul_mod_self_left, Nat.add_comm a]
  refine Nat.mod_eq_of_lt ?_
  have h5 : q1 % 2 ^ (64 - r) + 1 ≤ 2 ^ (64 - r) := Nat.mod_lt _ hp
  have h6 := Nat.mul_le_mul_right (2 ^ r) h5
  rw [← e, Nat.add_mul, Nat.one_mul] at h6
  omega
/-- a limb at a place, which may lie ahead of the beginning -/
def xi (x : Nat) (j : Int) : Nat := if j < 0 then 0 else x / 18446744073709551616 ^ j.toNat % 18446744073709551616
/-- a size times 2 to a power, cut off -/
def shN (x : Nat) (b : Int) : Nat := if 0 ≤ b then x * 2 ^ b.toNat else x / 2 ^ (-b).toNat
theorem xi_up {x M : Nat} {j : Int} (h : 0 ≤ j + M) : xi x j = x * 18446744073709551616 ^ M / 18446744073709551616 ^ (j + M).toNat % 18446744073709551616 := by
  have hp := Nat.pow_pos (n := M) (show 0 < 18446744073709551616 by omega)
  unfold xi
  by_cases hj : j < 0
  · rw [if_pos hj]
    have e : 18446744073709551616 ^ M = 18446744073709551616 ^ (-j).toNat * 18446744073709551616 ^ (j + M).toNat := by rw [← Nat.pow_add, show (-j).toNat + (j + M).toNat = M by omega]
    rw [e, ← Nat.mul_assoc, Nat.mul_div_cancel _ (Nat.pow_pos (by omega)), show (-j).toNat = ((-j).toNat - 1) + 1 by omega, Nat.pow_succ, ← Nat.mul_assoc, Nat.mul_mod_left]
  · rw [if_neg hj]
    rw [show (j + M).toNat = j.toNat + M by omega, Nat.pow_add, Nat.mul_div_mul_right _ _ hp]
theorem shN_up {x M r : Nat} {L : Int} (hr : r < 64) (h : 0 ≤ (M : Int) - L) : shN x (64 * L + r) = x * 18446744073709551616 ^ M * 2 ^ r / 18446744073709551616 ^ ((M : Int) - L).toNat := by
  have hp := Nat.pow_pos (n := M) (show 0 < 18446744073709551616 by omega)
  unfold shN
  by_cases hL : 0 ≤ L
  · rw [if_pos (by omega)]
    have e : 18446744073709551616 ^ M = 18446744073709551616 ^ L.toNat * 18446744073709551616 ^ ((M : Int) - L).toNat := by rw [← Nat.pow_add, show L.toNat + ((M : Int) - L).toNat = M by omega]
    have e2 : x * (18446744073709551616 ^ L.toNat * 18446744073709551616 ^ ((M : Int) - L).toNat) * 2 ^ r = x * (18446744073709551616 ^ L.toNat * 2 ^ r) * 18446744073709551616 ^ ((M : Int) - L).toNat := by ac_rfl
    rw [e, e2, Nat.mul_div_cancel _ (Nat.pow_pos (by omega)), pow64, ← Nat.pow_add, show 64 * L.toNat + r = (64 * L + r).toNat by omega]
  · rw [if_neg (by omega), show ((M : Int) - L).toNat = (-L).toNat + M by omega, Nat.pow_add, Nat.mul_right_comm, Nat.mul_div_mul_right _ _ hp, pow64, show 64 * (-L).toNat = (-(64 * L + (r : Int))).toNat + r by omega, Nat.pow_add, Nat.mul_div_mul_right _ _ (Nat.two_pow_pos r)]
theorem sh_at {x r i : Nat} {L : Int} (hr : r < 64) : shN x (64 * L + r) / 18446744073709551616 ^ i % 18446744073709551616 = xi x ((i : Int) - L) * 2 ^ r % 18446744073709551616 + xi x ((i : Int) - L - 1) / 2 ^ (64 - r) := by
  rw [shN_up (M := L.natAbs + 1) hr (by omega), xi_up (M := L.natAbs + 1) (by omega), xi_up (M := L.natAbs + 1) (by omega), Nat.div_div_eq_div_mul, ← Nat.pow_add]
  generalize x * 18446744073709551616 ^ (L.natAbs + 1) = X
  obtain ⟨E, hE⟩ : ∃ E : Nat, (((L.natAbs + 1 : Nat) : Int) - L).toNat + i = E + 1 := ⟨(((L.natAbs + 1 : Nat) : Int) - L).toNat + i - 1, by omega⟩
  rw [hE, show ((i : Int) - L + ((L.natAbs + 1 : Nat) : Int)).toNat = E + 1 by omega, show ((i : Int) - L - 1 + ((L.natAbs + 1 : Nat) : Int)).toNat = E by omega]
  have e : (18446744073709551616 : Nat) = 2 ^ (64 - r) * 2 ^ r := by rw [← Nat.pow_add, show 64 - r + r = 64 by omega]
  have h1 : X * 2 ^ r / 18446744073709551616 ^ (E + 1) = X / 18446744073709551616 ^ E / 2 ^ (64 - r) := by
    rw [Nat.div_div_eq_div_mul, Nat.pow_succ]
    conv => lhs; rw [show 18446744073709551616 ^ E * 18446744073709551616 = 18446744073709551616 ^ E * 2 ^ (64 - r) * 2 ^ r by rw [Nat.mul_assoc, ← e]]
    rw [Nat.mul_div_mul_right _ _ (Nat.two_pow_pos r)]
  rw [h1, Nat.pow_succ, ← Nat.div_div_eq_div_mul]
  exact sh_digit hr
def iv (s : Bool) (x : Nat) : Int := if s then -(x : Int) else (x : Int)
theorem iv_abs (s : Bool) (x : Nat) : (iv s x).natAbs = x := by unfold iv; cases s <;> simp
theorem iv_f (x : Nat) : iv false x = x := rfl
theorem iv_t (x : Nat) : iv true x = -(x : Int) := rfl
theorem iv_not (s : Bool) (x : Nat) : iv (!s) x = - iv s x := by unfold iv; cases s <;> simp
end Go.Proofs.Ytobceegpcimdgaa
namespace Go.Proofs.Ytobceegpcimdgaa
open Go.RowKit
set_option linter.unusedVariables false

/-! limb: trim, bits, noughts, compare -/
theorem trimL (ad : Option Addr) (n cap : Nat) (xs : List Nat) (w : World) (h : Row w ad n cap xs) :
    Calls Try.prog 70 #[.slice ad n cap] w fun e w' => ∃ k, e = .returned (.slice ad k cap) ∧ k ≤ n ∧ (∀ i, k ≤ i → i < n → xs.getD i 0 = 0) ∧ (k = 0 ∨ xs.getD (k - 1) 0 ≠ 0) ∧ w' = w := by
  have h1 := h.le
  have h2 := h.max
  have H : Hid (Row w ad n cap xs) := h
  clear h
  go_enter Try.func70, Try.ntmps70
  go_wp2
  go_loop [3] (fun t => ∃ k : Nat, k ≤ n ∧ t = .int .i64 k ∧ Hid (∀ i, k ≤ i → i < n → xs.getD i 0 = 0)) (fun t => (intOf t).toNat)
  case atStart => exact ⟨n, Nat.le_refl _, rfl, fun i a b => absurd b (by omega)⟩
  case round =>
    obtain ⟨k, hk, rfl, hz⟩ := hrel
    by_cases hk0 : k = 0
    · subst hk0
      go_wp2
      go_ret
      exact ⟨0, rfl, by omega, hz.out, Or.inl rfl, rfl⟩
    · obtain ⟨b, off, rfl, hb, hc⟩ := H.out.cells (by omega)
      have hcell := hc (k - 1) (by omega)
      clear hc
      by_cases hx : xs.getD (k - 1) 0 = 0
      · rw [hx] at hcell
        go_wp2
        go_round
        case rel => exact ⟨k - 1, by omega, by go_num, fun i a b => if e : i = k - 1 then e ▸ hx else hz.out i (by omega) b⟩
        case measure => simp [intOf]; omega
      · have HX : Hid (xs.getD (k - 1) 0 ≠ 0) := hx
        generalize hv : xs.getD (k - 1) 0 = v at hcell hx
        have hv0 : (((v : Nat) : Int) == 0) = false := by simp; omega
        clear hv hx
        go_wp2
        go_ret
        exact ⟨k, rfl, hk, hz.out, Or.inr HX.out, rfl⟩
theorem Fresh.takeG {w : World} {B N C : Nat} {ad : Option Addr} {xs : List Nat} (h : w.ownsRow B 51 1 (.slice ad N C) N (u64s xs)) {k : Nat} (hk : k ≤ N) : Fresh B w ad k C := by
  rcases h.2 with ⟨h1, h2⟩ | ⟨g, cap, cur, h1, _⟩
  · injection h1 with e1 e2 e3
    subst e1 e2 e3
    obtain rfl : k = 0 := by omega
    exact Fresh.nil _ _
  · injection h1 with e1 e2 e3
    subst e1
    exact Fresh.take h hk
theorem trimLO {w w1 : World} {B N C v : Nat} {ad : Option Addr} {zs : List Nat} (hown : w.ownsRow B 51 1 (.slice ad N C) N (u64s zs)) (hz : ∀ z ∈ zs, z < 18446744073709551616) (hv : nv 18446744073709551616 zs = v) (gr : Gr w w1) :
    Calls Try.prog 70 #[.slice ad N C] w1 fun e w' => ∃ j, e = .returned (.slice ad j C) ∧ j ≤ N ∧ Lim w ad j C 18446744073709551616 v ∧ Fresh B w ad j C ∧ w' = w1 := by
  obtain ⟨ad', cap', hEq, hrow⟩ := Row.of_owns hown
  simp only [Value.slice.injEq, true_and] at hEq
  obtain ⟨rfl, rfl⟩ := hEq
  refine (trimL _ _ _ zs w1 (hrow.gr gr)).mono ?_
  rintro e w' ⟨j, rfl, hj, h0, ht, rfl⟩
  refine ⟨j, rfl, hj, ?_, Fresh.takeG hown hj, rfl⟩
  have := trim_out hrow hz hj h0 ht
  rw [hv] at this
  exact this

set_option maxHeartbeats 800000 in
theorem compareL (ad1 ad2 : Option Addr) (n1 n2 c1 c2 x y : Nat) (w : World) (hx : Lim w ad1 n1 c1 18446744073709551616 x) (hy : Lim w ad2 n2 c2 18446744073709551616 y) (b1 : n1 ≤ 1099511627776) (b2 : n2 ≤ 1099511627776) :
    Calls Try.prog 69 #[.slice ad1 n1 c1, .slice ad2 n2 c2] w fun e w' => e = .returned (.int .i64 (cmpI (x : Int) (y : Int))) ∧ Gr w w' := by
  obtain ⟨xs, rx, dx⟩ := hx
  obtain ⟨ys, ry, dy⟩ := hy
  by_cases hm : n1 = n2
  case neg =>
    have E : Hid (cmpI (n1 : Int) (n2 : Int) = cmpI (x : Int) (y : Int)) := by
      show _ = _
      rcases Nat.lt_or_gt_of_ne hm with h | h
      · have := dx.lt_of_len (by omega) dy (by rw [rx.len, ry.len]; exact h)
        rw [cmpI_lt (by omega), cmpI_lt (by omega)]
      · have := dy.lt_of_len (by omega) dx (by rw [rx.len, ry.len]; exact h)
        rw [cmpI_gt (by omega), cmpI_gt (by omega)]
    have hne : ((n1 : Int) != (n2 : Int)) = true := by simp; omega
    clear rx ry dx dy
    go_enter Try.func69, Try.ntmps69
    go_wp2_with (go_at_call 102; refine (cmpI58 _ _ _).mono ?_; rintro e w' ⟨rfl, rfl⟩)
    go_ret
    exact ⟨ret_i64 E.out, Gr.refl _⟩
  case pos =>
    subst hm
    have RX : Hid (Row w ad1 n1 c1 xs) := rx
    have RY : Hid (Row w ad2 n1 c2 ys) := ry
    have DX : Hid (Dg 18446744073709551616 x xs) := dx
    have DY : Hid (Dg 18446744073709551616 y ys) := dy
    clear rx ry dx dy
    go_enter Try.func69, Try.ntmps69
    go_wp2
    go_loopw [19] (fun i wr => ∃ q : Nat, q ≤ n1 ∧ i = .int .i64 (q : Int) ∧ Hid (∀ j, n1 - q ≤ j → j < n1 → xs.getD j 0 = ys.getD j 0) ∧ Hid (Gr w wr)) (fun i _ => n1 - (intOf i).toNat)
    case atStart => exact ⟨0, by omega, rfl, (fun j a b => absurd b (by omega)), Gr.refl _⟩
    case round =>
      obtain ⟨q, hq, rfl, he, hg⟩ := hrel
      by_cases hk0 : q = n1
      · subst hk0
        have exy : x = y := by
          rw [← DX.out.1, ← DY.out.1, ext_getD (xs := xs) (ys := ys) (by rw [RX.out.len, RY.out.len]) (fun j hj => he.out j (by omega) (by rw [← RX.out.len]; exact hj))]
        have e : Hid ((0 : Int) = cmpI (x : Int) (y : Int)) := by
          show _ = _
          rw [cmpI_eq (by omega)]
        clear exy
        go_wp2
        go_ret
        exact ⟨ret_i64 e.out, hg.out⟩
      · obtain ⟨k, hk⟩ : ∃ k, k + 1 + q = n1 := ⟨n1 - 1 - q, by omega⟩
        obtain ⟨p1, o1, rfl, hb1, hc1⟩ := RX.out.lt (by omega)
        obtain ⟨p2, o2, rfl, hb2, hc2⟩ := RY.out.lt (by omega)
        have hcell1 := hc1 wr hg.out k (by omega)
        have hcell2 := hc2 wr hg.out k (by omega)
        obtain ⟨xk, hxk⟩ : ∃ xk, xk = xs.getD k 0 := ⟨_, rfl⟩
        obtain ⟨yk, hyk⟩ : ∃ yk, yk = ys.getD k 0 := ⟨_, rfl⟩
        rw [← hxk] at hcell1
        rw [← hyk] at hcell2
        have HX : Hid (xk = xs.getD k 0 ∧ yk = ys.getD k 0) := ⟨hxk, hyk⟩
        clear hxk hyk hc1 hc2
        have hlt : (q : Int) < (n1 : Int) := by omega
        have hpl2 : (n1 : Int) - 1 - (q : Int) = (k : Int) := by omega
        have hkn : (k : Int) < (n1 : Int) := by omega
        by_cases h : xk = yk
        · subst h
          have HE : Hid (∀ j, n1 - (q + 1) ≤ j → j < n1 → xs.getD j 0 = ys.getD j 0) := fun j h1 h2 => if e : j = k then by rw [e, ← HX.out.1, ← HX.out.2] else he.out j (by omega) h2
          go_wp2
          go_quiet (fail)
          go_wp2
          go_roundw
          case rel => exact ⟨q + 1, by omega, by go_num, HE.out, by first | exact hg.out | exact hg.out.drewN _ | exact (hg.out.drewN _).drewN _⟩
          case measure => simp only [intOf]; omega
        · have e : Hid (cmpI (xk : Int) (yk : Int) = cmpI (x : Int) (y : Int)) := by
            show _ = _
            rcases Nat.lt_or_gt_of_ne h with h | h
            · have := nv_cmp_top xs ys DX.out.2.1 DY.out.2.1 (by rw [RX.out.len, RY.out.len]) k (by rw [RX.out.len]; omega) (fun j h1 h2 => he.out j (by omega) (by rw [← RX.out.len]; exact h2)) (by rw [← HX.out.1, ← HX.out.2]; exact h)
              rw [DX.out.1, DY.out.1] at this
              rw [cmpI_lt (by omega), cmpI_lt (by omega)]
            · have := nv_cmp_top ys xs DY.out.2.1 DX.out.2.1 (by rw [RX.out.len, RY.out.len]) k (by rw [RY.out.len]; omega) (fun j h1 h2 => (he.out j (by omega) (by rw [← RY.out.len]; exact h2)).symm) (by rw [← HX.out.1, ← HX.out.2]; exact h)
              rw [DX.out.1, DY.out.1] at this
              rw [cmpI_gt (by omega), cmpI_gt (by omega)]
          have h' : ((xk : Int) != (yk : Int)) = true := by simp; omega
          go_wp2
          go_quiet (fail)
          go_wp2
          generalize hwq : wr.drewN nq = wq
          have hq1 : wq.cell? ⟨p1, o1 + k, none⟩ = some (.int .u64 (xk : Int)) := by rw [← hwq]; exact hcell1
          have hq2 : wq.cell? ⟨p2, o2 + k, none⟩ = some (.int .u64 (yk : Int)) := by rw [← hwq]; exact hcell2
          have HG : Hid (Gr w wq) := by rw [← hwq]; exact hg.out.drewN _
          have D2 : Hid (∀ n, Calls Try.prog 103 #[.int .u64 (xk : Int), .int .u64 (yk : Int)] (wq.drewN n) fun e w' => e = .returned (.int .i64 (cmpI (xk : Int) (yk : Int))) ∧ w' = wq.drewN n) := fun n => cmpU71 _ _ _
          clear hwq hcell1 hcell2
          go_quiet ((go_at_call 103; exact Calls.quiet_of_same (D2.out _)))
          go_wp2
          go_ret
          exact ⟨ret_i64 e.out, HG.out.drewN _⟩
end Go.Proofs.Ytobceegpcimdgaa
