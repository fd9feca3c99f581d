import Derived.Test.YtamjpojnonaecaaGreatDoorM11
import Derived.Test.YtamjpojnonaecaaGreatDoorM23
import Derived.Test.YtamjpojnonaecaaGreatDoorM24
import Derived.Deep.DeepCutAuto
import Derived.Deep.RegionWith
namespace Go.Proofs.YtamjpojnonaecaaGreatDoor
open Go.RowKit
set_option linter.unusedVariables false

/-! THE STATEMENT'S OWN LONG DIVISION: numbers -/
/-- times: the first i digits -/
structure TmAt (xs zs : List Nat) (i b c m : Nat) : Prop where
  len : zs.length = m
  lt : ∀ z ∈ zs, z < 4294967296
  val : nv 4294967296 zs + 4294967296 ^ i * c = b * nv 4294967296 (xs.take i)
  zero : ∀ j, i ≤ j → zs.getD j 0 = 0
theorem getD_rep (m j : Nat) : (List.replicate m 0).getD j 0 = 0 := by
  rw [List.getD_eq_getElem?_getD, List.getElem?_replicate]; split <;> rfl
theorem TmAt.start (xs : List Nat) (b m : Nat) : TmAt xs (List.replicate m 0) 0 b 0 m :=
  ⟨by simp, (fun z hz => by rw [List.mem_replicate] at hz; omega), by simp [nv, nv_zeros], fun j _ => getD_rep m j⟩
theorem TmAt.next {xs zs : List Nat} {i b c m x s : Nat} (h : TmAt xs zs i b c m) (hi : i < m) (hx : x = xs.getD i 0) (hs : s = x * b + c) : TmAt xs (zs.set i (s % 4294967296)) (i + 1) b (s / 4294967296) m := by
  have hl := h.len
  refine ⟨by rw [List.length_set]; exact hl, set_lt h.lt (Nat.mod_lt _ (by omega)), ?_, fun j hj => ?_⟩
  · have s1 := nv_set 4294967296 zs i (s % 4294967296) (by omega)
    rw [h.zero i (Nat.le_refl _), Nat.mul_zero, Nat.add_zero] at s1
    rw [s1, nv_take_succ, ← hx, Nat.pow_succ, hs]
    exact up_step h.val _ rfl
  · rw [getD_set _ _ _ _ (by omega), if_neg (by omega)]
    exact h.zero j (by omega)
theorem TmAt.done {xs zs : List Nat} {b c m : Nat} (h : TmAt xs zs m b c m) (hl : xs.length ≤ m) (hf : b * nv 4294967296 xs < 4294967296 ^ m) : nv 4294967296 zs = b * nv 4294967296 xs := by
  have hv := h.val
  rw [nv_take_all _ _ _ hl] at hv
  rcases Nat.eq_zero_or_pos c with rfl | hc
  · simpa using hv
  · have := Nat.mul_le_mul_left (4294967296 ^ m) hc
    omega
theorem nv_dropz {B : Nat} {ds : List Nat} (hB : 0 < B) (hd : ∀ d ∈ ds, d < B) (q : Nat) (hq : q ≤ ds.length) : nv B ds / B ^ q = nv B (ds.drop q) := by
  have h1 : nv B ds = nv B (ds.take q) + B ^ q * nv B (ds.drop q) := by
    conv => lhs; rw [← List.take_append_drop q ds, nv_append, List.length_take, Nat.min_eq_left hq]
  have h2 := nv_lt B (ds.take q) (fun d h => hd d (List.mem_of_mem_take h))
  rw [List.length_take, Nat.min_eq_left hq] at h2
  rw [h1, Nat.add_comm, Nat.mul_add_div (Nat.pow_pos hB), Nat.div_eq_of_lt h2, Nat.add_zero]
/-- digits from a place on -/
theorem cut_val {zs : List Nat} {k m : Nat} (hz : ∀ z ∈ zs, z < 4294967296) (hN : k + m ≤ zs.length) (h0 : ∀ i, k + m ≤ i → zs.getD i 0 = 0) : nv 4294967296 ((zs.drop k).take m) = nv 4294967296 zs / 4294967296 ^ k := by
  rw [nv_dropz (by omega) hz k (by omega)]
  refine nv_take_zeros _ _ _ fun i h1 h2 => ?_
  rw [List.getD_eq_getElem?_getD, List.getElem?_drop, ← List.getD_eq_getElem?_getD]
  exact h0 _ (by omega)
theorem cut_at {zs : List Nat} {k m j : Nat} (hj : j < m) : ((zs.drop k).take m).getD j 0 = zs.getD (k + j) 0 := by
  rw [List.getD_eq_getElem?_getD, List.getElem?_take_of_lt hj, List.getElem?_drop, ← List.getD_eq_getElem?_getD]
theorem cut_lt {zs : List Nat} {k m : Nat} (hz : ∀ z ∈ zs, z < 4294967296) : ∀ z ∈ (zs.drop k).take m, z < 4294967296 := fun z h => hz z (List.mem_of_mem_drop (List.mem_of_mem_take h))
theorem cut_len {zs : List Nat} {k m : Nat} (hN : k + m ≤ zs.length) : ((zs.drop k).take m).length = m := by
  rw [List.length_take, List.length_drop]; omega
theorem nv_small {zs : List Nat} {k : Nat} (hz : ∀ z ∈ zs, z < 4294967296) (h0 : ∀ i, k ≤ i → zs.getD i 0 = 0) : nv 4294967296 zs < 4294967296 ^ k := by
  rw [← nv_take_zeros 4294967296 zs k (fun i h _ => h0 i h)]
  refine Nat.lt_of_lt_of_le (nv_lt _ _ (fun z h => hz z (List.mem_of_mem_take h))) (Nat.pow_le_pow_right (by omega) ?_)
  rw [List.length_take]; omega
theorem nv_zero_above {zs : List Nat} {k : Nat} (hz : ∀ z ∈ zs, z < 4294967296) (h : nv 4294967296 zs < 4294967296 ^ k) : ∀ i, k ≤ i → zs.getD i 0 = 0 := fun i hi => by
  by_cases hl : i < zs.length
  · have e := nv_take_succ 4294967296 zs i
    have h1 : nv 4294967296 (zs.take (i + 1)) ≤ nv 4294967296 zs := by
      have := nv_append 4294967296 (zs.take (i + 1)) (zs.drop (i + 1))
      rw [List.take_append_drop] at this
      omega
    have h2 : 4294967296 ^ k ≤ 4294967296 ^ i := Nat.pow_le_pow_right (by omega) hi
    rcases Nat.eq_zero_or_pos (zs.getD i 0) with h3 | h3
    · exact h3
    · have := Nat.mul_le_mul_left (4294967296 ^ i) h3
      omega
  · rw [List.getD_eq_getElem?_getD, List.getElem?_eq_none (by omega)]; rfl
/-- taken off, digit by digit -/
structure SbAt (ps zs zs0 : List Nat) (k j b N : Nat) : Prop where
  len : zs.length = N
  lt : ∀ z ∈ zs, z < 4294967296
  le : b ≤ 1
  val : nv 4294967296 zs + 4294967296 ^ k * nv 4294967296 (ps.take j) = nv 4294967296 zs0 + 4294967296 ^ (k + j) * b
  rest : ∀ i, k + j ≤ i → zs.getD i 0 = zs0.getD i 0
theorem SbAt.start {ps zs : List Nat} {k N : Nat} (hl : zs.length = N) (h : ∀ z ∈ zs, z < 4294967296) : SbAt ps zs zs k 0 0 N := ⟨hl, h, by omega, by simp [nv], fun _ _ => rfl⟩
theorem SbAt.next {ps zs zs0 : List Nat} {k j b N o p s : Nat} (h : SbAt ps zs zs0 k j b N) (hj : k + j < N) (ho : o = zs.getD (k + j) 0) (hp : p = ps.getD j 0) (bo : o < 4294967296) (bp : p < 4294967296) (hs : s + p + b = 4294967296 + o) :
    SbAt ps (zs.set (k + j) (s % 4294967296)) zs0 k (j + 1) (1 - s / 4294967296) N := by
  have hl := h.len
  have hb := h.le
  refine ⟨by rw [List.length_set]; exact hl, set_lt h.lt (Nat.mod_lt _ (by omega)), by omega, ?_, ?_⟩
  · have s1 := nv_set 4294967296 zs (k + j) (s % 4294967296) (by omega)
    rw [← ho] at s1
    have := tak_step (B := 4294967296) (x := p) (y := 1) (lo := p + b) (hi := 0) (bo := 1 - s / 4294967296) h.val s1 (by omega) (by omega) (Q := 4294967296 ^ (k + (j + 1))) (by rw [← Nat.add_assoc, Nat.pow_succ])
    rw [nv_take_succ, ← hp, Nat.mul_add]
    rw [Nat.mul_one, Nat.zero_add, Nat.pow_add, Nat.mul_assoc] at this
    exact this
  · intro i hi
    rw [getD_set _ _ _ _ (by omega), if_neg (by omega)]
    exact h.rest i (by omega)
theorem SbAt.done {ps zs zs0 : List Nat} {k m b N : Nat} (h : SbAt ps zs zs0 k m b N) (hl : ps.length ≤ m) (h0 : ∀ i, k + m ≤ i → zs0.getD i 0 = 0) (hle : 4294967296 ^ k * nv 4294967296 ps ≤ nv 4294967296 zs0) : nv 4294967296 zs + 4294967296 ^ k * nv 4294967296 ps = nv 4294967296 zs0 := by
  have hv := h.val
  rw [nv_take_all _ _ _ hl] at hv
  have hb := h.le
  have hz := nv_small (k := k + m) h.lt (fun i hi => by rw [h.rest i hi]; exact h0 i hi)
  rcases Nat.eq_zero_or_pos b with rfl | hc
  · simpa using hv
  · obtain rfl : b = 1 := by omega
    omega
/-- the digit that is guessed is not too small -/
theorem guess_ge {us vs : List Nat} {k m : Nat} (hu : ∀ z ∈ us, z < 4294967296) (hv : ∀ z ∈ vs, z < 4294967296) (hm : vs.length = m + 1) (hN : k + (m + 2) ≤ us.length) (h0 : ∀ i, k + (m + 2) ≤ i → us.getD i 0 = 0) (ht : 0 < vs.getD m 0) :
    nv 4294967296 us / 4294967296 ^ k / nv 4294967296 vs ≤ (us.getD (k + (m + 1)) 0 * 4294967296 + us.getD (k + m) 0) / vs.getD m 0 := by
  rw [← cut_val hu hN h0]
  refine three_le (B := 4294967296) (P := 4294967296 ^ m) (Nat.pow_pos (by omega)) ?_ ?_ ht
  · have e1 := nv_take_succ 4294967296 (us.drop k) (m + 1)
    have e2 := nv_take_succ 4294967296 (us.drop k) m
    have g1 : (us.drop k).getD (m + 1) 0 = us.getD (k + (m + 1)) 0 := by rw [List.getD_eq_getElem?_getD, List.getElem?_drop, ← List.getD_eq_getElem?_getD]
    have g2 : (us.drop k).getD m 0 = us.getD (k + m) 0 := by rw [List.getD_eq_getElem?_getD, List.getElem?_drop, ← List.getD_eq_getElem?_getD]
    have hlow : nv 4294967296 ((us.drop k).take m) < 4294967296 ^ m := by
      have := nv_lt 4294967296 ((us.drop k).take m) (cut_lt hu)
      rwa [cut_len (by omega)] at this
    rw [e1, e2, g1, g2, Nat.pow_succ]
    generalize us.getD (k + (m + 1)) 0 = a
    generalize us.getD (k + m) 0 = c
    generalize nv 4294967296 ((us.drop k).take m) = l at *
    generalize 4294967296 ^ m = P at *
    have : (a * 4294967296 + c + 1) * P = P * c + P * 4294967296 * a + P := by
      rw [Nat.add_mul, Nat.add_mul, Nat.one_mul, Nat.mul_comm c P, Nat.mul_comm (a * 4294967296) P, Nat.mul_comm a, ← Nat.mul_assoc]; omega
    omega
  · have e := nv_take_succ 4294967296 vs m
    rw [nv_take_all _ _ _ (by omega)] at e
    rw [e, Nat.mul_comm]; omega
/-- long: the digits that are told, what is left -/
structure LgAt (us outs : List Nat) (k L M V N : Nat) : Prop where
  ulen : us.length = L
  olen : outs.length = M
  ult : ∀ z ∈ us, z < 4294967296
  olt : ∀ z ∈ outs, z < 4294967296
  val : nv 4294967296 outs * V + nv 4294967296 us = N
  lt : nv 4294967296 us < 4294967296 ^ k * V
  zero : ∀ j, j < k → outs.getD j 0 = 0
theorem LgAt.next {us us' outs : List Nat} {k L M V N t : Nat} (h : LgAt us outs (k + 1) L M V N) (hk : k < M) (hV : 0 < V) (hl : us'.length = L) (hlt : ∀ z ∈ us', z < 4294967296) (ht : t < 4294967296) (hv : nv 4294967296 us' + 4294967296 ^ k * (t * V) = nv 4294967296 us) (hd : nv 4294967296 us / 4294967296 ^ k / V ≤ t) : LgAt us' (outs.set k t) k L M V N := by
  obtain ⟨_, hlt2⟩ := limb_done (Nat.pow_pos (by omega : 0 < 4294967296)) hV hv hd
  have ho := h.olen
  refine ⟨hl, by rw [List.length_set]; exact ho, hlt, set_lt h.olt ht, ?_, hlt2, fun j hj => ?_⟩
  · have s1 := nv_set 4294967296 outs k t (by omega)
    rw [h.zero k (by omega), Nat.mul_zero, Nat.add_zero] at s1
    rw [s1, Nat.add_mul, ← h.val, ← hv, Nat.mul_assoc]
    omega
  · rw [getD_set _ _ _ _ (by omega), if_neg (by omega)]
    exact h.zero j (by omega)
theorem LgAt.done {us outs : List Nat} {L M V N : Nat} (h : LgAt us outs 0 L M V N) (hV : 0 < V) : nv 4294967296 outs = N / V ∧ nv 4294967296 us = N % V := by
  have hl := h.lt
  rw [Nat.pow_zero, Nat.one_mul] at hl
  have hv := h.val
  rw [← hv, Nat.mul_comm]
  exact ⟨by rw [Nat.mul_add_div hV, Nat.div_eq_of_lt hl, Nat.add_zero], by rw [Nat.mul_add_mod, Nat.mod_eq_of_lt hl]⟩
theorem scale_ok {t : Nat} (h1 : 0 < t) (h2 : t < 4294967296) : 0 < 4294967296 / (t + 1) ∧ 4294967296 / (t + 1) ≤ 2147483648 ∧ 4294967296 / (t + 1) * (t + 1) ≤ 4294967296 :=
  ⟨Nat.div_pos (by omega) (by omega), by
    have := Nat.div_le_div_left (a := 4294967296) (show 2 ≤ t + 1 by omega) (by omega)
    omega, Nat.div_mul_le_self _ _⟩
theorem scale_fits {ys : List Nat} {m : Nat} (hy : ∀ z ∈ ys, z < 4294967296) (hm : ys.length = m + 1) (h1 : 0 < ys.getD m 0) : 4294967296 / (ys.getD m 0 + 1) * nv 4294967296 ys < 4294967296 ^ (m + 1) := by
  have ht := getD_lt (by omega) hy m
  obtain ⟨s1, s2, s3⟩ := scale_ok h1 ht
  have e := nv_take_succ 4294967296 ys m
  rw [nv_take_all _ _ _ (by omega)] at e
  have hlow : nv 4294967296 (ys.take m) < 4294967296 ^ m := by
    have := nv_lt 4294967296 (ys.take m) (fun z h => hy z (List.mem_of_mem_take h))
    rwa [List.length_take, Nat.min_eq_left (by omega)] at this
  generalize ys.getD m 0 = t at *
  generalize 4294967296 / (t + 1) = c at *
  have h2 : nv 4294967296 ys < 4294967296 ^ m * (t + 1) := by rw [e, Nat.mul_add, Nat.mul_one]; omega
  have h3 := Nat.mul_lt_mul_of_pos_left h2 s1
  refine Nat.lt_of_lt_of_le h3 ?_
  rw [Nat.mul_left_comm, Nat.pow_succ]
  exact Nat.mul_le_mul_left _ s3
/-- the root from above: never below -/
theorem newton_ge {a x : Nat} (hx : 0 < x) {r : Nat} (hr : r * r ≤ a) : r ≤ (x + a / x) / 2 := by
  rw [Nat.le_div_iff_mul_le (by omega)]
  refine Nat.le_of_lt_succ ?_
  refine Nat.lt_of_not_le fun h => ?_
  have h1 : a < (a / x + 1) * x := by
    have := Nat.div_add_mod a x
    have := Nat.mod_lt a hx
    rw [Nat.add_mul, Nat.one_mul, Nat.mul_comm]; omega
  have h2 := am_gm x (a / x + 1)
  have h3 : (x + (a / x + 1)) * (x + (a / x + 1)) ≤ (r * 2) * (r * 2) := Nat.mul_le_mul (by omega) (by omega)
  have h4 : x * (a / x + 1) = (a / x + 1) * x := Nat.mul_comm _ _
  have h5 : (r * 2) * (r * 2) = 4 * (r * r) := by rw [Nat.mul_mul_mul_comm]; omega
  omega
theorem newton_le {a x : Nat} (hx : 0 < x) (h : x ≤ (x + a / x) / 2) : x * x ≤ a := by
  have h1 : x ≤ a / x := by omega
  exact (Nat.le_div_iff_mul_le hx).1 h1
end Go.Proofs.YtamjpojnonaecaaGreatDoor
namespace Go.Proofs.YtamjpojnonaecaaGreatDoor
open Go.RowKit
set_option linter.unusedVariables false

theorem Row.gx {g : Nat} {w w' : World} {ad : Option Addr} {n cap : Nat} {xs : List Nat} (h : Row w ad n cap xs) (hne : 0 < n → ∀ a, ad = some a → a.block ≠ g) (gx : Gx g w w') : Row w' ad n cap xs := by
  refine ⟨h.len, h.le, h.max, h.nil, fun hp => ?_⟩
  obtain ⟨b, off, e, hb, hc⟩ := h.cells hp
  exact ⟨b, off, e, Nat.lt_of_lt_of_le hb gx.size, fun j hj => (World.cell?_of_block (w := w) (gx.block b hb (hne hp _ e))).trans (hc j hj)⟩
end Go.Proofs.YtamjpojnonaecaaGreatDoor
namespace Go.Proofs.YtamjpojnonaecaaGreatDoor
open Go.RowKit
set_option linter.unusedVariables false

def leB (k a X : Nat) : Bool := decide (4294967296 ^ k * a ≤ X)
theorem leB_t {k a X : Nat} (h : 4294967296 ^ k * a ≤ X) : leB k a X = true := by simp [leB, h]
theorem leB_f {k a X : Nat} (h : ¬ 4294967296 ^ k * a ≤ X) : leB k a X = false := by unfold leB; exact decide_eq_false h
/-- what the comparison from the top says -/
theorem top_lt {ps zs : List Nat} {k m j : Nat} (hp : ∀ z ∈ ps, z < 4294967296) (hz : ∀ z ∈ zs, z < 4294967296) (hl : ps.length = m) (hN : k + m ≤ zs.length) (h0 : ∀ i, k + m ≤ i → zs.getD i 0 = 0) (hj : j < m) (he : ∀ t, j + 1 ≤ t → t < m → ps.getD t 0 = zs.getD (k + t) 0) (hlt : ps.getD j 0 < zs.getD (k + j) 0) : 4294967296 ^ k * nv 4294967296 ps ≤ nv 4294967296 zs := by
  have h := nv_cmp_top ps ((zs.drop k).take m) hp (cut_lt hz) (by rw [hl, cut_len hN]) j (by omega) (fun t h1 h2 => by rw [cut_at (by omega)]; exact he t (by omega) (by omega)) (by rw [cut_at hj]; exact hlt)
  rw [cut_val hz hN h0] at h
  exact Nat.le_trans (Nat.mul_le_mul_left _ (Nat.le_of_lt h)) (Nat.mul_div_le _ _)
theorem top_gt {ps zs : List Nat} {k m j : Nat} (hp : ∀ z ∈ ps, z < 4294967296) (hz : ∀ z ∈ zs, z < 4294967296) (hl : ps.length = m) (hN : k + m ≤ zs.length) (h0 : ∀ i, k + m ≤ i → zs.getD i 0 = 0) (hj : j < m) (he : ∀ t, j + 1 ≤ t → t < m → ps.getD t 0 = zs.getD (k + t) 0) (hlt : zs.getD (k + j) 0 < ps.getD j 0) : ¬ 4294967296 ^ k * nv 4294967296 ps ≤ nv 4294967296 zs := by
  have h := nv_cmp_top ((zs.drop k).take m) ps (cut_lt hz) hp (by rw [hl, cut_len hN]) j (by rw [cut_len hN]; exact hj) (fun t h1 h2 => by rw [cut_len hN] at h2; rw [cut_at h2]; exact (he t (by omega) h2).symm) (by rw [cut_at hj]; exact hlt)
  rw [cut_val hz hN h0] at h
  intro hle
  have := (Nat.le_div_iff_mul_le (Nat.pow_pos (by omega : 0 < 4294967296))).2 (Nat.mul_comm _ _ ▸ hle)
  omega
theorem top_eq {ps zs : List Nat} {k m : Nat} (hl : ps.length = m) (hz : ∀ z ∈ zs, z < 4294967296) (hN : k + m ≤ zs.length) (h0 : ∀ i, k + m ≤ i → zs.getD i 0 = 0) (he : ∀ t, 0 ≤ t → t < m → ps.getD t 0 = zs.getD (k + t) 0) : 4294967296 ^ k * nv 4294967296 ps ≤ nv 4294967296 zs := by
  have : ps = (zs.drop k).take m := ext_getD (by rw [hl, cut_len hN]) (fun j hj => by rw [cut_at (by omega)]; exact he j (by omega) (by omega))
  rw [this, cut_val hz hN h0]
  exact Nat.mul_div_le _ _
end Go.Proofs.YtamjpojnonaecaaGreatDoor
namespace Go.Proofs.YtamjpojnonaecaaGreatDoor
open Go.RowKit
set_option linter.unusedVariables false

theorem Gr.gx {g : Nat} {a w w' : World} (h : Gr a w) (hg : a.heap.size ≤ g) (gx : Gx g w w') : Gr a w' :=
  ⟨gx.os.trans h.os, gx.output.trans h.output, Nat.le_trans h.size gx.size, fun k hk => (gx.block k (Nat.lt_of_lt_of_le hk h.size) (by omega)).trans (h.block k hk)⟩
theorem long_start {xs ys us vs : List Nat} {n m c : Nat} (hx : ∀ z ∈ xs, z < 4294967296) (hxl : xs.length = n) (hyl : ys.length = m + 1) (hmn : m + 1 ≤ n) (ht : 0 < ys.getD m 0) (hul : us.length = n + 1) (hu : ∀ z ∈ us, z < 4294967296) (huv : nv 4294967296 us = c * nv 4294967296 xs) (hvv : nv 4294967296 vs = c * nv 4294967296 ys) (hc : 0 < c) : LgAt us (List.replicate (n - m) 0) (n - m) (n + 1) (n - m) (nv 4294967296 vs) (c * nv 4294967296 xs) := by
  refine ⟨hul, by simp, hu, (fun z hz => by rw [List.mem_replicate] at hz; omega), by rw [nv_zeros, Nat.zero_mul, Nat.zero_add, huv], ?_, fun j _ => getD_rep _ _⟩
  have h1 := nv_lt 4294967296 xs hx
  rw [hxl] at h1
  have e := nv_take_succ 4294967296 ys m
  rw [nv_take_all _ _ _ (by omega)] at e
  have h2 : 4294967296 ^ m ≤ nv 4294967296 ys := by
    have := Nat.mul_le_mul_left (4294967296 ^ m) ht
    omega
  rw [huv, hvv]
  have h3 : 4294967296 ^ (n - m) * (c * nv 4294967296 ys) = c * (4294967296 ^ (n - m) * nv 4294967296 ys) := Nat.mul_left_comm _ _ _
  rw [h3]
  refine Nat.mul_lt_mul_of_pos_left (Nat.lt_of_lt_of_le h1 ?_) hc
  have h4 := Nat.mul_le_mul_left (4294967296 ^ (n - m)) h2
  rwa [← Nat.pow_add, show n - m + m = n by omega] at h4
theorem top_pos {ys vs : List Nat} {m c : Nat} (hyl : ys.length = m + 1) (ht : 0 < ys.getD m 0) (hvl : vs.length = m + 1) (hv : ∀ z ∈ vs, z < 4294967296) (hvv : nv 4294967296 vs = c * nv 4294967296 ys) (hc : 0 < c) : 0 < vs.getD m 0 := by
  rcases Nat.eq_zero_or_pos (vs.getD m 0) with h | h
  · exfalso
    have h1 : nv 4294967296 vs < 4294967296 ^ m := nv_small hv (fun i hi => by
      rcases Nat.lt_or_ge i (m + 1) with h3 | h3
      · obtain rfl : i = m := by omega
        exact h
      · rw [List.getD_eq_getElem?_getD, List.getElem?_eq_none (by omega)]; rfl)
    have e := nv_take_succ 4294967296 ys m
    rw [nv_take_all _ _ _ (by omega)] at e
    have h2 := Nat.mul_le_mul_left (4294967296 ^ m) ht
    have h3 := Nat.mul_le_mul_right (nv 4294967296 ys) hc
    omega
  · exact h
theorem lg_zero {us outs : List Nat} {k m L M V N : Nat} (h : LgAt us outs (k + 1) L M V N) (hV : V < 4294967296 ^ (m + 1)) : ∀ i, k + (m + 1 + 1) ≤ i → us.getD i 0 = 0 := by
  refine nv_zero_above h.ult ?_
  refine Nat.lt_of_lt_of_le h.lt ?_
  have := Nat.mul_le_mul_left (4294967296 ^ (k + 1)) (Nat.le_of_lt hV)
  rwa [← Nat.pow_add, show k + 1 + (m + 1) = k + (m + 1 + 1) by omega] at this
theorem div_lt_B {u k V : Nat} (h : u < 4294967296 ^ (k + 1) * V) : u / 4294967296 ^ k / V < 4294967296 := by
  rw [Nat.div_div_eq_div_mul]
  refine Nat.div_lt_of_lt_mul ?_
  rw [Nat.mul_right_comm, ← Nat.pow_succ]; exact h
theorem no_less {u k q V : Nat} (h : ¬ 4294967296 ^ k * (q * V) ≤ u) (hV : 0 < V) : u / 4294967296 ^ k / V < q := by
  rw [Nat.div_div_eq_div_mul]
  refine Nat.div_lt_of_lt_mul ?_
  rw [Nat.mul_assoc, Nat.mul_comm V]; omega
theorem guess_min {a g : Nat} (h1 : g ≤ a) (h2 : g < 4294967296) : g ≤ min a 4294967295 := by omega
theorem min_lt (a : Nat) : min a 4294967295 < 4294967296 := by omega
theorem min_cast {b u1 u0 vt : Nat} {B : Int} (hB : B = (b : Int)) : min (((u1 : Int) * B + (u0 : Int)) / (vt : Int)) 4294967295 = ((min ((u1 * b + u0) / vt) 4294967295 : Nat) : Int) := by
  have : ((u1 : Int) * B + (u0 : Int)) / (vt : Int) = (((u1 * b + u0) / vt : Nat) : Int) := by
    rw [hB, Int.natCast_ediv, Int.natCast_add, Int.natCast_mul]
  rw [this]
  generalize (u1 * b + u0) / vt = a
  omega
end Go.Proofs.YtamjpojnonaecaaGreatDoor
namespace Go.Proofs.YtamjpojnonaecaaGreatDoor
open Go.RowKit
set_option linter.unusedVariables false

theorem Dg.top {B n : Nat} {xs : List Nat} (h : Dg B n xs) {k : Nat} (hk : xs.length = k + 1) : 0 < xs.getD k 0 := by
  have h3 := h.2.2
  refine Nat.pos_of_ne_zero fun h0 => ?_
  have hB : 0 < B := Nat.lt_of_le_of_lt (Nat.zero_le _) (h.2.1 _ (getD_mem (show k < xs.length by omega)))
  have hz := h.lower hk
  have e := nv_take_succ B xs k
  rw [nv_take_all _ _ _ (by omega), h0, Nat.mul_zero, Nat.add_zero, h.1] at e
  have hl := nv_lt B (xs.take k) (fun z hz => h.2.1 z (List.mem_of_mem_take hz))
  rw [List.length_take, Nat.min_eq_left (by omega)] at hl
  omega
end Go.Proofs.YtamjpojnonaecaaGreatDoor
namespace Go.Proofs.YtamjpojnonaecaaGreatDoor
open Go.RowKit
set_option linter.unusedVariables false

theorem lim_same {w : World} {ad : Option Addr} {n cap x y : Nat} (h : Lim w ad n cap 18446744073709551616 x) (h' : Lim w ad n cap 18446744073709551616 y) : x = y := by
  obtain ⟨xs, rx, dx⟩ := h
  obtain ⟨ys, ry, dy⟩ := h'
  have : xs = ys := ext_getD (by rw [rx.len, ry.len]) fun j hj => by
    rw [rx.len] at hj
    obtain ⟨b, o, e1, _, c1⟩ := rx.cells (by omega)
    obtain ⟨b', o', e2, _, c2⟩ := ry.cells (by omega)
    rw [e1] at e2
    injection e2 with e2
    injection e2 with e3 e4
    subst e3 e4
    have := (c1 j hj).symm.trans (c2 j hj)
    injection this with this
    injection this with _ this
    exact Int.ofNat.inj this
  rw [← dx.1, ← dy.1, this]
/-- the number that lies in a slice's limbs -/
theorem lim_measure : ∃ M : Value → World → Nat, ∀ (ad : Option Addr) (n cap : Nat) (w : World) (x : Nat), Lim w ad n cap 18446744073709551616 x → M (.slice ad n cap) w = x := by
  classical
  refine ⟨fun v w => if h : ∃ x, ∃ ad n cap, v = .slice ad n cap ∧ Lim w ad n cap 18446744073709551616 x then h.choose else 0, fun ad n cap w x hx => ?_⟩
  have h : ∃ x, ∃ ad' n' cap', Value.slice ad n cap = .slice ad' n' cap' ∧ Lim w ad' n' cap' 18446744073709551616 x := ⟨x, ad, n, cap, rfl, hx⟩
  show (if h : ∃ x, ∃ ad' n' cap', Value.slice ad n cap = .slice ad' n' cap' ∧ Lim w ad' n' cap' 18446744073709551616 x then h.choose else 0) = x
  rw [dif_pos h]
  obtain ⟨a', n', c', e, hl⟩ := h.choose_spec
  injection e with e1 e2 e3
  subst e1 e2 e3
  exact lim_same hl hx
theorem root_start {a R : Nat} (h1 : R * R ≤ a) : R ≤ 1 * 2 ^ ((bl a + 1) / 2) := by
  rw [Nat.one_mul]
  refine Nat.le_of_lt (Nat.lt_of_not_le fun h => ?_)
  have h2 := Nat.mul_le_mul h h
  rw [← Nat.pow_add] at h2
  have h3 := bl_lt a
  have h4 : 2 ^ bl a ≤ 2 ^ ((bl a + 1) / 2 + (bl a + 1) / 2) := Nat.pow_le_pow_right (by omega) (by omega)
  omega
theorem sq_le_of {x R a : Nat} (h1 : x * x ≤ a) (h2 : a < (R + 1) * (R + 1)) : x ≤ R := by
  refine Nat.le_of_lt_succ (Nat.lt_of_not_le fun h => ?_)
  have h' : R + 1 ≤ x := h
  have := Nat.mul_le_mul h' h'
  omega
theorem bl_div (a x : Nat) : bl (a / x) ≤ bl a := bl_mono (Nat.div_le_self _ _)
theorem bl_add (x y k : Nat) (hx : bl x ≤ k) (hy : bl y ≤ k) : bl (x + y) ≤ k + 1 := by
  refine bl_le_of_lt ?_
  have h1 := Nat.lt_of_lt_of_le (bl_lt x) (Nat.pow_le_pow_right (n := 2) (by omega) hx)
  have h2 := Nat.lt_of_lt_of_le (bl_lt y) (Nat.pow_le_pow_right (n := 2) (by omega) hy)
  rw [Nat.pow_succ]; omega
end Go.Proofs.YtamjpojnonaecaaGreatDoor
namespace Go.Proofs.YtamjpojnonaecaaGreatDoor
open Go.RowKit
set_option linter.unusedVariables false

/-- is something cut off? -/
def lostB (x n : Nat) : Bool := decide (x % 2 ^ n ≠ 0)
def LostAt (b : Bool) (ds : List Nat) (k : Nat) : Prop := b = true ↔ nv 4294967296 (ds.take k) ≠ 0
theorem lost_start (ds : List Nat) : LostAt false ds 0 := by simp [LostAt, nv]
theorem lost_f {ds : List Nat} {k x : Nat} (h : LostAt false ds k) (hx : x = ds.getD k 0) : LostAt ((x : Int) != 0) ds (k + 1) := by
  unfold LostAt at h ⊢
  have h0 : nv 4294967296 (ds.take k) = 0 := by
    rcases Nat.eq_zero_or_pos (nv 4294967296 (ds.take k)) with h1 | h1
    · exact h1
    · exact absurd (h.2 (by omega)) (by simp)
  rw [nv_take_succ, ← hx, h0, Nat.zero_add]
  have hp : 0 < 4294967296 ^ k := Nat.pow_pos (by omega)
  constructor
  · intro h1
    have : x ≠ 0 := by intro h2; subst h2; simp at h1
    exact Nat.ne_of_gt (Nat.mul_pos hp (by omega))
  · intro h1
    have : x ≠ 0 := by intro h2; subst h2; simp at h1
    simp; omega
theorem lost_t {ds : List Nat} {k : Nat} (h : LostAt true ds k) : LostAt true ds (k + 1) := by
  unfold LostAt at h ⊢
  have := h.1 rfl
  rw [nv_take_succ]
  exact ⟨fun _ => by omega, fun _ => rfl⟩
theorem lost_all {ds : List Nat} {k n x : Nat} {b : Bool} (h : LostAt b ds k) (d : Dg 4294967296 x ds) (hk : ds.length ≤ k) (hz : x / 2 ^ n = 0) : lostB x n = b := by
  unfold LostAt at h
  rw [nv_take_all _ _ _ hk, d.1] at h
  have e : x % 2 ^ n = x := by
    have := Nat.div_add_mod x (2 ^ n)
    rw [hz, Nat.mul_zero, Nat.zero_add] at this
    exact this
  unfold lostB
  rw [e]
  cases b
  · have : ¬ x ≠ 0 := fun h1 => by simpa using h.2 h1
    exact decide_eq_false this
  · exact decide_eq_true (h.1 rfl)
theorem mod_parts {ds : List Nat} {q r n x p : Nat} (d : Dg 4294967296 x ds) (hq : q ≤ ds.length) (hp : p = 2 ^ r) (hn : n = 32 * q + r) : x % 2 ^ n = nv 4294967296 (ds.take q) + 4294967296 ^ q * (nv 4294967296 (ds.drop q) % p) := by
  have h1 : x = nv 4294967296 (ds.take q) + 4294967296 ^ q * nv 4294967296 (ds.drop q) := by
    conv => lhs; rw [← d.1, ← List.take_append_drop q ds, nv_append, List.length_take, Nat.min_eq_left hq]
  have h2 := nv_lt 4294967296 (ds.take q) (fun z h => d.2.1 z (List.mem_of_mem_take h))
  rw [List.length_take, Nat.min_eq_left hq] at h2
  have e : 2 ^ n = 4294967296 ^ q * p := by rw [hn, Nat.pow_add, ← pow32, hp]
  rw [e, h1, Nat.mod_mul, Nat.add_mul_mod_self_left, Nat.mod_eq_of_lt h2, Nat.add_mul_div_left _ _ (Nat.pow_pos (by omega)), Nat.div_eq_of_lt h2, Nat.zero_add]
theorem lost_ff {ds : List Nat} {q r n x p rr : Nat} (h : LostAt false ds q) (d : Dg 4294967296 x ds) (hq : q ≤ ds.length) (hp : p = 2 ^ r) (hr : rr = nv 4294967296 (ds.drop q) % p) (hn : n = 32 * q + r) : lostB x n = ((rr : Int) != 0) := by
  unfold LostAt at h
  have h0 : nv 4294967296 (ds.take q) = 0 := by
    rcases Nat.eq_zero_or_pos (nv 4294967296 (ds.take q)) with h1 | h1
    · exact h1
    · exact absurd (h.2 (by omega)) (by simp)
  unfold lostB
  rw [mod_parts d hq hp hn, h0, Nat.zero_add, ← hr]
  have hP : 0 < 4294967296 ^ q := Nat.pow_pos (by omega)
  rcases Nat.eq_zero_or_pos rr with h1 | h1
  · subst h1; simp
  · have h2 := Nat.mul_pos hP h1
    have e1 : ((rr : Int) != 0) = true := by simp; omega
    rw [e1]
    exact decide_eq_true (Nat.ne_of_gt h2)
theorem lost_tt {ds : List Nat} {q r n x p : Nat} (h : LostAt true ds q) (d : Dg 4294967296 x ds) (hq : q ≤ ds.length) (hp : p = 2 ^ r) (hn : n = 32 * q + r) : lostB x n = true := by
  unfold LostAt at h
  have := h.1 rfl
  unfold lostB
  rw [mod_parts d hq hp hn]
  exact decide_eq_true (by omega)
end Go.Proofs.YtamjpojnonaecaaGreatDoor
namespace Go.Proofs.YtamjpojnonaecaaGreatDoor
open Go.RowKit
set_option linter.unusedVariables false

/-- what the reference's Cut comes to -/
def CutV (s : Bool) (x : Nat) (e last : Int) (up : Bool) (s' : Bool) (m : Nat) (e' : Int) : Prop :=
  (x = 0 ∧ s' = false ∧ m = 0 ∧ e' = 0) ∨ (0 < x ∧ last ≤ e ∧ s' = s ∧ m = x ∧ e' = e) ∨ (0 < x ∧ e < last ∧ s' = s ∧ e' = last ∧ m = x / 2 ^ (last - e).toNat + (if lostB x (last - e).toNat = true ∧ s ≠ up then 1 else 0))
theorem box_two (w : World) (o1 o2 : Obj) : ((w.alloc o1).alloc o2).heap[w.heap.size]? = some o1 ∧ ((w.alloc o1).alloc o2).heap[w.heap.size + 1]? = some o2 := blk2 w o1 o2
theorem set3_lim {w : World} {ad : Option Addr} {n cap x b : Nat} {p : Bool} {q : Option Addr} {l k : Nat} {i : Int} {T : TypeId} (h : Lim w ad n cap 18446744073709551616 x) (hb : w.heap[b]? = some (.cells #[.bool p, .slice q l k, .int .i64 i] T)) (v0 v1 v2 : Value) : Lim (((w.setCell ⟨b, 0, none⟩ v0).setCell ⟨b, 1, none⟩ v1).setCell ⟨b, 2, none⟩ v2) ad n cap 18446744073709551616 x := h.set3 (h.apart hb) _ _ _
end Go.Proofs.YtamjpojnonaecaaGreatDoor
namespace Go.Proofs.YtamjpojnonaecaaGreatDoor
open Go.RowKit
set_option linter.unusedVariables false

/-! CUT -/
end Go.Proofs.YtamjpojnonaecaaGreatDoor
namespace Go.Proofs.YtamjpojnonaecaaGreatDoor
open Go.RowKit
set_option linter.unusedVariables false

theorem rexp37f (n : Int) (w : World) (h : ¬ (-1048576 ≤ n ∧ n ≤ 1048576)) : Calls Tryz.prog 132 #[.int .i64 n] w fun r w' => r = .returned (.bool false) ∧ w = w' := by
  have := rightExp36 n w
  rw [decide_eq_false h] at this
  exact this.mono fun r w' h => ⟨h.1, h.2.symm⟩
theorem lost_odd {q t : Nat} (ht : 0 < t) : lostB (2 * q + 1) t = true := by
  unfold lostB
  refine decide_eq_true fun h => ?_
  obtain ⟨u, rfl⟩ : ∃ u, t = u + 1 := ⟨t - 1, by omega⟩
  have hd := Nat.dvd_of_mod_eq_zero h
  rw [Nat.pow_succ, Nat.mul_comm] at hd
  obtain ⟨c, hc⟩ := hd
  rw [Nat.mul_assoc] at hc
  omega
end Go.Proofs.YtamjpojnonaecaaGreatDoor
