import Derived.Test.YtnmdnhmfmahjaaaGreatDoorM19
import Derived.Test.YtnmdnhmfmahjaaaGreatDoorM11
namespace Go.Proofs.YtnmdnhmfmahjaaaGreatDoor
open Go.RowKit
set_option linter.unusedVariables false

/-! THE STATEMENT'S OWN LONG DIVISION: numbers -/
/-- times: the first i digits -/
structure TmAt (xs zs : List Nat) (i b c m : Nat) : Prop where
  len : zs.length = m
  lt : ∀ z ∈ zs, z < 4294967296
  val : nv 4294967296 zs + 4294967296 ^ i * c = b * nv 4294967296 (xs.take i)
  zero : ∀ j, i ≤ j → zs.getD j 0 = 0
theorem getD_rep (m j : Nat) : (List.replicate m 0).getD j 0 = 0 := by
  rw [List.getD_eq_getElem?_getD, List.getElem?_replicate]; split <;> rfl
theorem TmAt.start (xs : List Nat) (b m : Nat) : TmAt xs (List.replicate m 0) 0 b 0 m :=
  ⟨by simp, (fun z hz => by rw [List.mem_replicate] at hz; omega), by simp [nv, nv_zeros], fun j _ => getD_rep m j⟩
theorem TmAt.next {xs zs : List Nat} {i b c m x s : Nat} (h : TmAt xs zs i b c m) (hi : i < m) (hx : x = xs.getD i 0) (hs : s = x * b + c) : TmAt xs (zs.set i (s % 4294967296)) (i + 1) b (s / 4294967296) m := by
  have hl := h.len
  refine ⟨by rw [List.length_set]; exact hl, set_lt h.lt (Nat.mod_lt _ (by omega)), ?_, fun j hj => ?_⟩
  · have s1 := nv_set 4294967296 zs i (s % 4294967296) (by omega)
    rw [h.zero i (Nat.le_refl _), Nat.mul_zero, Nat.add_zero] at s1
    rw [s1, nv_take_succ, ← hx, Nat.pow_succ, hs]
    exact up_step h.val _ rfl
  · rw [getD_set _ _ _ _ (by omega), if_neg (by omega)]
    exact h.zero j (by omega)
theorem TmAt.done {xs zs : List Nat} {b c m : Nat} (h : TmAt xs zs m b c m) (hl : xs.length ≤ m) (hf : b * nv 4294967296 xs < 4294967296 ^ m) : nv 4294967296 zs = b * nv 4294967296 xs := by
  have hv := h.val
  rw [nv_take_all _ _ _ hl] at hv
  rcases Nat.eq_zero_or_pos c with rfl | hc
  · simpa using hv
  · have := Nat.mul_le_mul_left (4294967296 ^ m) hc
    omega
theorem nv_dropz {B : Nat} {ds : List Nat} (hB : 0 < B) (hd : ∀ d ∈ ds, d < B) (q : Nat) (hq : q ≤ ds.length) : nv B ds / B ^ q = nv B (ds.drop q) := by
  have h1 : nv B ds = nv B (ds.take q) + B ^ q * nv B (ds.drop q) := by
    conv => lhs; rw [← List.take_append_drop q ds, nv_append, List.length_take, Nat.min_eq_left hq]
  have h2 := nv_lt B (ds.take q) (fun d h => hd d (List.mem_of_mem_take h))
  rw [List.length_take, Nat.min_eq_left hq] at h2
  rw [h1, Nat.add_comm, Nat.mul_add_div (Nat.pow_pos hB), Nat.div_eq_of_lt h2, Nat.add_zero]
/-- digits from a place on -/
theorem cut_val {zs : List Nat} {k m : Nat} (hz : ∀ z ∈ zs, z < 4294967296) (hN : k + m ≤ zs.length) (h0 : ∀ i, k + m ≤ i → zs.getD i 0 = 0) : nv 4294967296 ((zs.drop k).take m) = nv 4294967296 zs / 4294967296 ^ k := by
  rw [nv_dropz (by omega) hz k (by omega)]
  refine nv_take_zeros _ _ _ fun i h1 h2 => ?_
  rw [List.getD_eq_getElem?_getD, List.getElem?_drop, ← List.getD_eq_getElem?_getD]
  exact h0 _ (by omega)
theorem cut_at {zs : List Nat} {k m j : Nat} (hj : j < m) : ((zs.drop k).take m).getD j 0 = zs.getD (k + j) 0 := by
  rw [List.getD_eq_getElem?_getD, List.getElem?_take_of_lt hj, List.getElem?_drop, ← List.getD_eq_getElem?_getD]
theorem cut_lt {zs : List Nat} {k m : Nat} (hz : ∀ z ∈ zs, z < 4294967296) : ∀ z ∈ (zs.drop k).take m, z < 4294967296 := fun z h => hz z (List.mem_of_mem_drop (List.mem_of_mem_take h))
theorem cut_len {zs : List Nat} {k m : Nat} (hN : k + m ≤ zs.length) : ((zs.drop k).take m).length = m := by
  rw [List.length_take, List.length_drop]; omega
theorem nv_small {zs : List Nat} {k : Nat} (hz : ∀ z ∈ zs, z < 4294967296) (h0 : ∀ i, k ≤ i → zs.getD i 0 = 0) : nv 4294967296 zs < 4294967296 ^ k := by
  rw [← nv_take_zeros 4294967296 zs k (fun i h _ => h0 i h)]
  refine Nat.lt_of_lt_of_le (nv_lt _ _ (fun z h => hz z (List.mem_of_mem_take h))) (Nat.pow_le_pow_right (by omega) ?_)
  rw [List.length_take]; omega
theorem nv_zero_above {zs : List Nat} {k : Nat} (hz : ∀ z ∈ zs, z < 4294967296) (h : nv 4294967296 zs < 4294967296 ^ k) : ∀ i, k ≤ i → zs.getD i 0 = 0 := fun i hi => by
  by_cases hl : i < zs.length
  · have e := nv_take_succ 4294967296 zs i
    have h1 : nv 4294967296 (zs.take (i + 1)) ≤ nv 4294967296 zs := by
      have := nv_append 4294967296 (zs.take (i + 1)) (zs.drop (i + 1))
      rw [List.take_append_drop] at this
      omega
    have h2 : 4294967296 ^ k ≤ 4294967296 ^ i := Nat.pow_le_pow_right (by omega) hi
    rcases Nat.eq_zero_or_pos (zs.getD i 0) with h3 | h3
    · exact h3
    · have := Nat.mul_le_mul_left (4294967296 ^ i) h3
      omega
  · rw [List.getD_eq_getElem?_getD, List.getElem?_eq_none (by omega)]; rfl
/-- taken off, digit by digit -/
structure SbAt (ps zs zs0 : List Nat) (k j b N : Nat) : Prop where
  len : zs.length = N
  lt : ∀ z ∈ zs, z < 4294967296
  le : b ≤ 1
  val : nv 4294967296 zs + 4294967296 ^ k * nv 4294967296 (ps.take j) = nv 4294967296 zs0 + 4294967296 ^ (k + j) * b
  rest : ∀ i, k + j ≤ i → zs.getD i 0 = zs0.getD i 0
theorem SbAt.start {ps zs : List Nat} {k N : Nat} (hl : zs.length = N) (h : ∀ z ∈ zs, z < 4294967296) : SbAt ps zs zs k 0 0 N := ⟨hl, h, by omega, by simp [nv], fun _ _ => rfl⟩
theorem SbAt.next {ps zs zs0 : List Nat} {k j b N o p s : Nat} (h : SbAt ps zs zs0 k j b N) (hj : k + j < N) (ho : o = zs.getD (k + j) 0) (hp : p = ps.getD j 0) (bo : o < 4294967296) (bp : p < 4294967296) (hs : s + p + b = 4294967296 + o) :
    SbAt ps (zs.set (k + j) (s % 4294967296)) zs0 k (j + 1) (1 - s / 4294967296) N := by
  have hl := h.len
  have hb := h.le
  refine ⟨by rw [List.length_set]; exact hl, set_lt h.lt (Nat.mod_lt _ (by omega)), by omega, ?_, ?_⟩
  · have s1 := nv_set 4294967296 zs (k + j) (s % 4294967296) (by omega)
    rw [← ho] at s1
    have := tak_step (B := 4294967296) (x := p) (y := 1) (lo := p + b) (hi := 0) (bo := 1 - s / 4294967296) h.val s1 (by omega) (by omega) (Q := 4294967296 ^ (k + (j + 1))) (by rw [← Nat.add_assoc, Nat.pow_succ])
    rw [nv_take_succ, ← hp, Nat.mul_add]
    rw [Nat.mul_one, Nat.zero_add, Nat.pow_add, Nat.mul_assoc] at this
    exact this
  · intro i hi
    rw [getD_set _ _ _ _ (by omega), if_neg (by omega)]
    exact h.rest i (by omega)
theorem SbAt.done {ps zs zs0 : List Nat} {k m b N : Nat} (h : SbAt ps zs zs0 k m b N) (hl : ps.length ≤ m) (h0 : ∀ i, k + m ≤ i → zs0.getD i 0 = 0) (hle : 4294967296 ^ k * nv 4294967296 ps ≤ nv 4294967296 zs0) : nv 4294967296 zs + 4294967296 ^ k * nv 4294967296 ps = nv 4294967296 zs0 := by
  have hv := h.val
  rw [nv_take_all _ _ _ hl] at hv
  have hb := h.le
  have hz := nv_small (k := k + m) h.lt (fun i hi => by rw [h.rest i hi]; exact h0 i hi)
  rcases Nat.eq_zero_or_pos b with rfl | hc
  · simpa using hv
  · obtain rfl : b = 1 := by omega
    omega
/-- the digit that is guessed is not too small -/
theorem guess_ge {us vs : List Nat} {k m : Nat} (hu : ∀ z ∈ us, z < 4294967296) (hv : ∀ z ∈ vs, z < 4294967296) (hm : vs.length = m + 1) (hN : k + (m + 2) ≤ us.length) (h0 : ∀ i, k + (m + 2) ≤ i → us.getD i 0 = 0) (ht : 0 < vs.getD m 0) :
    nv 4294967296 us / 4294967296 ^ k / nv 4294967296 vs ≤ (us.getD (k + (m + 1)) 0 * 4294967296 + us.getD (k + m) 0) / vs.getD m 0 := by
  rw [← cut_val hu hN h0]
  refine three_le (B := 4294967296) (P := 4294967296 ^ m) (Nat.pow_pos (by omega)) ?_ ?_ ht
  · have e1 := nv_take_succ 4294967296 (us.drop k) (m + 1)
    have e2 := nv_take_succ 4294967296 (us.drop k) m
    have g1 : (us.drop k).getD (m + 1) 0 = us.getD (k + (m + 1)) 0 := by rw [List.getD_eq_getElem?_getD, List.getElem?_drop, ← List.getD_eq_getElem?_getD]
    have g2 : (us.drop k).getD m 0 = us.getD (k + m) 0 := by rw [List.getD_eq_getElem?_getD, List.getElem?_drop, ← List.getD_eq_getElem?_getD]
    have hlow : nv 4294967296 ((us.drop k).take m) < 4294967296 ^ m := by
      have := nv_lt 4294967296 ((us.drop k).take m) (cut_lt hu)
      rwa [cut_len (by omega)] at this
    rw [e1, e2, g1, g2, Nat.pow_succ]
    generalize us.getD (k + (m + 1)) 0 = a
    generalize us.getD (k + m) 0 = c
    generalize nv 4294967296 ((us.drop k).take m) = l at *
    generalize 4294967296 ^ m = P at *
    have : (a * 4294967296 + c + 1) * P = P * c + P * 4294967296 * a + P := by
      rw [Nat.add_mul, Nat.add_mul, Nat.one_mul, Nat.mul_comm c P, Nat.mul_comm (a * 4294967296) P, Nat.mul_comm a, ← Nat.mul_assoc]; omega
    omega
  · have e := nv_take_succ 4294967296 vs m
    rw [nv_take_all _ _ _ (by omega)] at e
    rw [e, Nat.mul_comm]; omega
/-- long: the digits that are told, what is left -/
structure LgAt (us outs : List Nat) (k L M V N : Nat) : Prop where
  ulen : us.length = L
  olen : outs.length = M
  ult : ∀ z ∈ us, z < 4294967296
  olt : ∀ z ∈ outs, z < 4294967296
  val : nv 4294967296 outs * V + nv 4294967296 us = N
  lt : nv 4294967296 us < 4294967296 ^ k * V
  zero : ∀ j, j < k → outs.getD j 0 = 0
theorem LgAt.next {us us' outs : List Nat} {k L M V N t : Nat} (h : LgAt us outs (k + 1) L M V N) (hk : k < M) (hV : 0 < V) (hl : us'.length = L) (hlt : ∀ z ∈ us', z < 4294967296) (ht : t < 4294967296) (hv : nv 4294967296 us' + 4294967296 ^ k * (t * V) = nv 4294967296 us) (hd : nv 4294967296 us / 4294967296 ^ k / V ≤ t) : LgAt us' (outs.set k t) k L M V N := by
  obtain ⟨_, hlt2⟩ := limb_done (Nat.pow_pos (by omega : 0 < 4294967296)) hV hv hd
  have ho := h.olen
  refine ⟨hl, by rw [List.length_set]; exact ho, hlt, set_lt h.olt ht, ?_, hlt2, fun j hj => ?_⟩
  · have s1 := nv_set 4294967296 outs k t (by omega)
    rw [h.zero k (by omega), Nat.mul_zero, Nat.add_zero] at s1
    rw [s1, Nat.add_mul, ← h.val, ← hv, Nat.mul_assoc]
    omega
  · rw [getD_set _ _ _ _ (by omega), if_neg (by omega)]
    exact h.zero j (by omega)
theorem LgAt.done {us outs : List Nat} {L M V N : Nat} (h : LgAt us outs 0 L M V N) (hV : 0 < V) : nv 4294967296 outs = N / V ∧ nv 4294967296 us = N % V := by
  have hl := h.lt
  rw [Nat.pow_zero, Nat.one_mul] at hl
  have hv := h.val
  rw [← hv, Nat.mul_comm]
  exact ⟨by rw [Nat.mul_add_div hV, Nat.div_eq_of_lt hl, Nat.add_zero], by rw [Nat.mul_add_mod, Nat.mod_eq_of_lt hl]⟩
theorem scale_ok {t : Nat} (h1 : 0 < t) (h2 : t < 4294967296) : 0 < 4294967296 / (t + 1) ∧ 4294967296 / (t + 1) ≤ 2147483648 ∧ 4294967296 / (t + 1) * (t + 1) ≤ 4294967296 :=
  ⟨Nat.div_pos (by omega) (by omega), by
    have := Nat.div_le_div_left (a := 4294967296) (show 2 ≤ t + 1 by omega) (by omega)
    omega, Nat.div_mul_le_self _ _⟩
theorem scale_fits {ys : List Nat} {m : Nat} (hy : ∀ z ∈ ys, z < 4294967296) (hm : ys.length = m + 1) (h1 : 0 < ys.getD m 0) : 4294967296 / (ys.getD m 0 + 1) * nv 4294967296 ys < 4294967296 ^ (m + 1) := by
  have ht := getD_lt (by omega) hy m
  obtain ⟨s1, s2, s3⟩ := scale_ok h1 ht
  have e := nv_take_succ 4294967296 ys m
  rw [nv_take_all _ _ _ (by omega)] at e
  have hlow : nv 4294967296 (ys.take m) < 4294967296 ^ m := by
    have := nv_lt 4294967296 (ys.take m) (fun z h => hy z (List.mem_of_mem_take h))
    rwa [List.length_take, Nat.min_eq_left (by omega)] at this
  generalize ys.getD m 0 = t at *
  generalize 4294967296 / (t + 1) = c at *
  have h2 : nv 4294967296 ys < 4294967296 ^ m * (t + 1) := by rw [e, Nat.mul_add, Nat.mul_one]; omega
  have h3 := Nat.mul_lt_mul_of_pos_left h2 s1
  refine Nat.lt_of_lt_of_le h3 ?_
  rw [Nat.mul_left_comm, Nat.pow_succ]
  exact Nat.mul_le_mul_left _ s3
/-- the root from above: never below -/
theorem newton_ge {a x : Nat} (hx : 0 < x) {r : Nat} (hr : r * r ≤ a) : r ≤ (x + a / x) / 2 := by
  rw [Nat.le_div_iff_mul_le (by omega)]
  refine Nat.le_of_lt_succ ?_
  refine Nat.lt_of_not_le fun h => ?_
  have h1 : a < (a / x + 1) * x := by
    have := Nat.div_add_mod a x
    have := Nat.mod_lt a hx
    rw [Nat.add_mul, Nat.one_mul, Nat.mul_comm]; omega
  have h2 := am_gm x (a / x + 1)
  have h3 : (x + (a / x + 1)) * (x + (a / x + 1)) ≤ (r * 2) * (r * 2) := Nat.mul_le_mul (by omega) (by omega)
  have h4 : x * (a / x + 1) = (a / x + 1) * x := Nat.mul_comm _ _
  have h5 : (r * 2) * (r * 2) = 4 * (r * r) := by rw [Nat.mul_mul_mul_comm]; omega
  omega
theorem newton_le {a x : Nat} (hx : 0 < x) (h : x ≤ (x + a / x) / 2) : x * x ≤ a := by
  have h1 : x ≤ a / x := by omega
  exact (Nat.le_div_iff_mul_le hx).1 h1
end Go.Proofs.YtnmdnhmfmahjaaaGreatDoor
namespace Go.Proofs.YtnmdnhmfmahjaaaGreatDoor
open Go.RowKit
set_option linter.unusedVariables false

theorem Row.gx {g : Nat} {w w' : World} {ad : Option Addr} {n cap : Nat} {xs : List Nat} (h : Row w ad n cap xs) (hne : 0 < n → ∀ a, ad = some a → a.block ≠ g) (gx : Gx g w w') : Row w' ad n cap xs := by
  refine ⟨h.len, h.le, h.max, h.nil, fun hp => ?_⟩
  obtain ⟨b, off, e, hb, hc⟩ := h.cells hp
  exact ⟨b, off, e, Nat.lt_of_lt_of_le hb gx.size, fun j hj => (World.cell?_of_block (w := w) (gx.block b hb (hne hp _ e))).trans (hc j hj)⟩
set_option maxRecDepth 10000 in
set_option maxHeartbeats 1600000 in
theorem timesR (ad : Option Addr) (m cap b P : Nat) (xs : List Nat) (w : World) (rx : Row w ad m cap xs) (hx : ∀ x ∈ xs, x < 4294967296) (hb : b < 4294967296) (hP : P ≤ 1099511627776) :
    Calls Tryz.prog 120 #[.slice ad m cap, .int .u64 (b : Int), .int .i64 (P : Int)] w fun e w' => ∃ (zs : List Nat) (c : Nat), e = .returned (.slice (some ⟨w.heap.size, 0, none⟩) P P) ∧ w'.ownsRow w.heap.size 41 1 (.slice (some ⟨w.heap.size, 0, none⟩) P P) P (u64s zs) ∧ TmAt xs zs P b c P ∧ Gr w w' := by
  have RX : Hid (Row w ad m cap xs) := rx
  have HX : Hid (∀ x ∈ xs, x < 4294967296) := hx
  clear rx hx
  go_enter Tryz.func120, Tryz.ntmps120
  go_wp2_with (at_make; refine wpList_made rfl _ _ rfl P _ rfl rfl ?_ ?_ ?_; rotate_right; intro w2 hown0 hg2)
  case' refine_1 => rfl
  case' refine_2 => omega
  have G2 : Hid (Gr w w2) := hg2
  clear hg2
  go_loopw [8, 9] (fun cr i wr => ∃ (k c : Nat) (zs : List Nat), k ≤ P ∧ c < 4294967296 ∧ i = .int .i64 (k : Int) ∧ cr = .int .u64 (c : Int) ∧ wr.ownsRow w.heap.size 41 1 (.slice (some ⟨w.heap.size, 0, none⟩) P P) P (u64s zs) ∧ Hid (TmAt xs zs k b c P) ∧ Hid (Gr w wr)) (fun _ i _ => P - (intOf i).toNat)
  case atStart => exact ⟨0, 0, List.replicate P 0, by omega, by omega, rfl, rfl, hown0, TmAt.start xs b P, G2⟩
  case round =>
    obtain ⟨k, c, zs, hk, hc, rfl, rfl, hown, hA, hg⟩ := hrel
    by_cases hlt : k < P
    · obtain ⟨xk, hxk⟩ : ∃ xk, xk = xs.getD k 0 := ⟨_, rfl⟩
      have D1 : Hid (Calls Tryz.prog 104 #[.slice ad m cap, .int .i64 (k : Int)] wr fun e w' => e = .returned (.int .u64 (xk : Int)) ∧ wr = w') := by
        rw [hxk]; exact (digit76 ad m cap xs k wr (RX.out.gr hg.out) (by omega)).mono fun e w' h => ⟨h.1, h.2.symm⟩
      have bxk : xk < 4294967296 := hxk ▸ getD_lt (by omega) HX.out k
      have hcell3 := owns_cell hown k (by omega)
      have hfz := hown.frozenAt k
      have hpr : xk * b ≤ 18446744065119617025 := prod_lt bxk hb
      have hpr' : (xk : Int) * (b : Int) ≤ 18446744065119617025 := by
        have : ((xk * b : Nat) : Int) ≤ 18446744065119617025 := by omega
        rwa [Int.natCast_mul] at this
      have hpr0 : 0 ≤ (xk : Int) * (b : Int) := Int.mul_nonneg (by omega) (by omega)
      have HM : Hid ((xk : Int) * (b : Int) = ((xk * b : Nat) : Int)) := (Int.natCast_mul _ _).symm
      have EM : Hid (((xk : Int) * (b : Int) + (c : Int)) % 4294967296 = (((xk * b + c) % 4294967296 : Nat) : Int)) := by
        show _ = _
        rw [HM.out]; omega
      have ED : Hid (((xk : Int) * (b : Int) + (c : Int)) / 4294967296 = (((xk * b + c) / 4294967296 : Nat) : Int)) := by
        show _ = _
        rw [HM.out]; omega
      have NX : Hid (TmAt xs (zs.set k ((xk * b + c) % 4294967296)) (k + 1) b ((xk * b + c) / 4294967296) P) := hA.out.next hlt hxk rfl
      have hc2 : (xk * b + c) / 4294967296 < 4294967296 := by omega
      have i1 : (k : Int) < (P : Int) := by omega
      clear hxk
      go_wp2_with (go_at_call 104; (with_reducible refine D1.out.mono ?_); rintro e w' ⟨rfl, rfl⟩)
      go_roundw
      case rel =>
        rw [EM.out, ED.out]
        exact ⟨k + 1, _, _, by omega, hc2, by go_num, rfl, owns_set hown k _, NX.out, hg.out.setCell (Nat.le_refl _) _⟩
      case measure => simp only [intOf]; omega
    · have hkP : k = P := by omega
      subst hkP
      go_wp2
      go_ret
      exact ⟨zs, c, rfl, hown, hA.out, hg.out⟩
end Go.Proofs.YtnmdnhmfmahjaaaGreatDoor
namespace Go.Proofs.YtnmdnhmfmahjaaaGreatDoor
open Go.RowKit
set_option linter.unusedVariables false

def leB (k a X : Nat) : Bool := decide (4294967296 ^ k * a ≤ X)
theorem leB_t {k a X : Nat} (h : 4294967296 ^ k * a ≤ X) : leB k a X = true := by simp [leB, h]
theorem leB_f {k a X : Nat} (h : ¬ 4294967296 ^ k * a ≤ X) : leB k a X = false := by unfold leB; exact decide_eq_false h
/-- what the comparison from the top says -/
theorem top_lt {ps zs : List Nat} {k m j : Nat} (hp : ∀ z ∈ ps, z < 4294967296) (hz : ∀ z ∈ zs, z < 4294967296) (hl : ps.length = m) (hN : k + m ≤ zs.length) (h0 : ∀ i, k + m ≤ i → zs.getD i 0 = 0) (hj : j < m) (he : ∀ t, j + 1 ≤ t → t < m → ps.getD t 0 = zs.getD (k + t) 0) (hlt : ps.getD j 0 < zs.getD (k + j) 0) : 4294967296 ^ k * nv 4294967296 ps ≤ nv 4294967296 zs := by
  have h := nv_cmp_top ps ((zs.drop k).take m) hp (cut_lt hz) (by rw [hl, cut_len hN]) j (by omega) (fun t h1 h2 => by rw [cut_at (by omega)]; exact he t (by omega) (by omega)) (by rw [cut_at hj]; exact hlt)
  rw [cut_val hz hN h0] at h
  exact Nat.le_trans (Nat.mul_le_mul_left _ (Nat.le_of_lt h)) (Nat.mul_div_le _ _)
theorem top_gt {ps zs : List Nat} {k m j : Nat} (hp : ∀ z ∈ ps, z < 4294967296) (hz : ∀ z ∈ zs, z < 4294967296) (hl : ps.length = m) (hN : k + m ≤ zs.length) (h0 : ∀ i, k + m ≤ i → zs.getD i 0 = 0) (hj : j < m) (he : ∀ t, j + 1 ≤ t → t < m → ps.getD t 0 = zs.getD (k + t) 0) (hlt : zs.getD (k + j) 0 < ps.getD j 0) : ¬ 4294967296 ^ k * nv 4294967296 ps ≤ nv 4294967296 zs := by
  have h := nv_cmp_top ((zs.drop k).take m) ps (cut_lt hz) hp (by rw [hl, cut_len hN]) j (by rw [cut_len hN]; exact hj) (fun t h1 h2 => by rw [cut_len hN] at h2; rw [cut_at h2]; exact (he t (by omega) h2).symm) (by rw [cut_at hj]; exact hlt)
  rw [cut_val hz hN h0] at h
  intro hle
  have := (Nat.le_div_iff_mul_le (Nat.pow_pos (by omega : 0 < 4294967296))).2 (Nat.mul_comm _ _ ▸ hle)
  omega
theorem top_eq {ps zs : List Nat} {k m : Nat} (hl : ps.length = m) (hz : ∀ z ∈ zs, z < 4294967296) (hN : k + m ≤ zs.length) (h0 : ∀ i, k + m ≤ i → zs.getD i 0 = 0) (he : ∀ t, 0 ≤ t → t < m → ps.getD t 0 = zs.getD (k + t) 0) : 4294967296 ^ k * nv 4294967296 ps ≤ nv 4294967296 zs := by
  have : ps = (zs.drop k).take m := ext_getD (by rw [hl, cut_len hN]) (fun j hj => by rw [cut_at (by omega)]; exact he j (by omega) (by omega))
  rw [this, cut_val hz hN h0]
  exact Nat.mul_div_le _ _
set_option maxRecDepth 10000 in
set_option maxHeartbeats 4000000 in
theorem lessR (g N k m c2 q : Nat) (ad2 : Option Addr) (vs zs0 : List Nat) (w : World) (rv : Row w ad2 m c2 vs) (hv : ∀ z ∈ vs, z < 4294967296) (hgl : g < w.heap.size) (how : w.ownsRow g 41 1 (.slice (some ⟨g, 0, none⟩) N N) N (u64s zs0)) (hz : ∀ z ∈ zs0, z < 4294967296) (hkN : k + (m + 1) ≤ N) (hN : N ≤ 1099511627776) (h0 : ∀ i, k + (m + 1) ≤ i → zs0.getD i 0 = 0) (hq : q < 4294967296) :
    Calls Tryz.prog 121 #[.slice (some ⟨g, 0, none⟩) N N, .int .i64 (k : Int), .slice ad2 m c2, .int .u64 (q : Int)] w fun e w' => ∃ (zs : List Nat), e = .returned (.bool (leB k (q * nv 4294967296 vs) (nv 4294967296 zs0))) ∧ zs.length = N ∧ (∀ z ∈ zs, z < 4294967296) ∧ w'.ownsRow g 41 1 (.slice (some ⟨g, 0, none⟩) N N) N (u64s zs) ∧ Gx g w w' ∧ (4294967296 ^ k * (q * nv 4294967296 vs) ≤ nv 4294967296 zs0 → nv 4294967296 zs + 4294967296 ^ k * (q * nv 4294967296 vs) = nv 4294967296 zs0) ∧ (¬ 4294967296 ^ k * (q * nv 4294967296 vs) ≤ nv 4294967296 zs0 → zs = zs0) := by
  have HT0 : Hid (Calls Tryz.prog 120 #[.slice ad2 m c2, .int .u64 (q : Int), .int .i64 ((m : Int) + 1)] w fun e w' => ∃ (zs : List Nat) (c : Nat), e = .returned (.slice (some ⟨w.heap.size, 0, none⟩) (m + 1) (m + 1)) ∧ w'.ownsRow w.heap.size 41 1 (.slice (some ⟨w.heap.size, 0, none⟩) (m + 1) (m + 1)) (m + 1) (u64s zs) ∧ TmAt vs zs (m + 1) q c (m + 1) ∧ Gr w w') := timesR ad2 m c2 q (m + 1) vs w rv hv hq (by omega)
  have hfit : q * nv 4294967296 vs < 4294967296 ^ (m + 1) := by
    have h1 := nv_lt 4294967296 vs hv
    rw [rv.len] at h1
    rw [Nat.pow_succ, Nat.mul_comm q]
    exact Nat.mul_lt_mul_of_lt_of_le h1 (by omega) (by omega)
  have FIT : Hid (q * nv 4294967296 vs < 4294967296 ^ (m + 1) ∧ vs.length ≤ m + 1) := ⟨hfit, by rw [rv.len]; omega⟩
  have LZ : Hid (zs0.length = N) := owns_len how
  have HZ : Hid (∀ z ∈ zs0, z < 4294967296) := hz
  have H0 : Hid (∀ i, k + (m + 1) ≤ i → zs0.getD i 0 = 0) := h0
  have HOW0 : Hid (w.ownsRow g 41 1 (.slice (some ⟨g, 0, none⟩) N N) N (u64s zs0)) := how
  have PNE : Hid (g ≠ w.heap.size) := Nat.ne_of_lt hgl
  have hml := rv.le
  have hmx := rv.max
  clear rv hv how hz h0 hfit
  go_enter Tryz.func121, Tryz.ntmps121
  go_wp2_with (go_at_call 120; (with_reducible refine HT0.out.mono ?_); rintro e w1 ⟨ps, c, rfl, hP, hT, g1⟩)
  have G1 : Hid (Gr w w1) := g1
  have HP : Hid (w1.ownsRow w.heap.size 41 1 (.slice (some ⟨w.heap.size, 0, none⟩) (m + 1) (m + 1)) (m + 1) (u64s ps)) := hP
  have HT : Hid (TmAt vs ps (m + 1) q c (m + 1)) := hT
  have VAL : Hid (nv 4294967296 ps = q * nv 4294967296 vs) := hT.done FIT.out.2 FIT.out.1
  have HOW : Hid (w1.ownsRow g 41 1 (.slice (some ⟨g, 0, none⟩) N N) N (u64s zs0)) := g1.owns HOW0.out
  clear g1 hP hT HOW0 HT0 FIT
  go_loopw [10] (fun i wr => ∃ j : Nat, j ≤ m + 1 ∧ i = .int .i64 ((j : Int) - 1) ∧ Hid (∀ t, j ≤ t → t < m + 1 → ps.getD t 0 = zs0.getD (k + t) 0) ∧ Hid (Gr w1 wr)) (fun i _ => (intOf i + 1).toNat)
  case atStart => exact ⟨m + 1, by omega, by go_num, (fun t h1 h2 => by omega), Gr.refl _⟩
  case round =>
    obtain ⟨j, hj, rfl, hE, hg⟩ := hrel
    by_cases hj0 : j = 0
    · subst hj0
      go_wp2
      have HLE : Hid (4294967296 ^ k * nv 4294967296 ps ≤ nv 4294967296 zs0) := top_eq HT.out.len HZ.out (by rw [LZ.out]; exact hkN) H0.out hE.out
      go_loopw [11, 12] (fun cr i wr => ∃ (j b : Nat) (zs : List Nat), j ≤ m + 1 ∧ b ≤ 1 ∧ i = .int .i64 (j : Int) ∧ cr = .int .u64 (b : Int) ∧ wr.ownsRow g 41 1 (.slice (some ⟨g, 0, none⟩) N N) N (u64s zs) ∧ Hid (SbAt ps zs zs0 k j b N) ∧ Hid (Gx g w1 wr)) (fun _ i _ => m + 1 - (intOf i).toNat)
      case atStart => exact ⟨0, 0, zs0, by omega, by omega, rfl, rfl, by first | exact hg.out.owns HOW.out | exact (hg.out.drewN _).owns HOW.out | exact ((hg.out.drewN _).drewN _).owns HOW.out, SbAt.start LZ.out HZ.out, by first | exact Gx.of_gr hg.out | exact Gx.of_gr (hg.out.drewN _) | exact Gx.of_gr ((hg.out.drewN _).drewN _)⟩
      case round =>
        clear hg
        obtain ⟨j, b, zs, hj, hb1, rfl, rfl, hown, hA, hgx⟩ := hrel
        by_cases hlt : j < m + 1
        · have hcell3 := owns_cell hown (k + j) (by omega)
          have hcellP := owns_cell (hgx.out.owns (Ne.symm PNE.out) HP.out) j hlt
          have hfz := hown.frozenAt (k + j)
          obtain ⟨o, ho⟩ : ∃ o, o = zs.getD (k + j) 0 := ⟨_, rfl⟩
          obtain ⟨p, hp⟩ : ∃ p, p = ps.getD j 0 := ⟨_, rfl⟩
          rw [← ho] at hcell3
          rw [← hp] at hcellP
          have bo : o < 4294967296 := ho ▸ getD_lt (by omega) hA.out.lt (k + j)
          have bp : p < 4294967296 := hp ▸ getD_lt (by omega) HT.out.lt j
          obtain ⟨s, hs⟩ : ∃ s, s = 4294967296 + o - p - b := ⟨_, rfl⟩
          have hs' : s + p + b = 4294967296 + o := by omega
          have NX : Hid (SbAt ps (zs.set (k + j) (s % 4294967296)) zs0 k (j + 1) (1 - s / 4294967296) N) := hA.out.next (by omega) ho hp bo bp hs'
          have EM : Hid ((4294967296 + (o : Int) - (p : Int) - (b : Int)) % 4294967296 = ((s % 4294967296 : Nat) : Int)) := by show _ = _; omega
          have ED : Hid (1 - (4294967296 + (o : Int) - (p : Int) - (b : Int)) / 4294967296 = ((1 - s / 4294967296 : Nat) : Int)) := by show _ = _; omega
          have i1 : (j : Int) ≤ (m : Int) := by omega
          have i2 : (k : Int) + (j : Int) < (N : Int) := by omega
          have i3 : (j : Int) < (m : Int) + 1 := by omega
          have bs : 1 - s / 4294967296 ≤ 1 := by omega
          clear ho hp hs hs'
          go_wp2
          go_quiet (fail)
          go_wp2
          go_roundw
          case rel =>
            rw [EM.out, ED.out]
            exact ⟨j + 1, 1 - s / 4294967296, _, by omega, bs, by go_num, rfl, owns_set (w := wr.drewN nq) hown (k + j) _, NX.out, Gx.setCell (hgx.out.trans (Gx.of_gr ((Gr.refl _).drewN nq))) rfl _⟩
          case measure => simp only [intOf]; omega
        · have hjm : j = m + 1 := by omega
          subst hjm
          have fin : Hid (nv 4294967296 zs + 4294967296 ^ k * nv 4294967296 ps = nv 4294967296 zs0) := hA.out.done (by rw [HT.out.len]; exact Nat.le_refl _) H0.out HLE.out
          go_wp2
          go_ret
          rw [VAL.out] at fin HLE
          exact ⟨zs, by rw [leB_t HLE.out]; rfl, hA.out.len, hA.out.lt, hown, (Gx.of_gr G1.out).trans hgx.out, fun _ => fin.out, fun h => absurd HLE.out h⟩
    · obtain ⟨j, rfl⟩ : ∃ j', j = j' + 1 := ⟨j - 1, by omega⟩
      have hcell3 := owns_cell (hg.out.owns HOW.out) (k + j) (by omega)
      have hcellP := owns_cell (hg.out.owns HP.out) j (by omega)
      obtain ⟨o, ho⟩ : ∃ o, o = zs0.getD (k + j) 0 := ⟨_, rfl⟩
      obtain ⟨p, hp⟩ : ∃ p, p = ps.getD j 0 := ⟨_, rfl⟩
      rw [← ho] at hcell3
      rw [← hp] at hcellP
      have HO : Hid (o = zs0.getD (k + j) 0 ∧ p = ps.getD j 0) := ⟨ho, hp⟩
      have i2 : (k : Int) + (j : Int) < (N : Int) := by omega
      have i3 : (j : Int) < (m : Int) + 1 := by omega
      clear ho hp
      rcases Nat.lt_trichotomy p o with hlt | heq | hgt
      · have HLT : Hid (ps.getD j 0 < zs0.getD (k + j) 0) := by show _ < _; rw [← HO.out.1, ← HO.out.2]; exact hlt
        go_wp2
        go_quiet (fail)
        go_wp2
        have HLE : Hid (4294967296 ^ k * nv 4294967296 ps ≤ nv 4294967296 zs0) := top_lt HT.out.lt HZ.out HT.out.len (by rw [LZ.out]; exact hkN) H0.out (by omega) hE.out HLT.out
        go_loopw [11, 12] (fun cr i wr => ∃ (j b : Nat) (zs : List Nat), j ≤ m + 1 ∧ b ≤ 1 ∧ i = .int .i64 (j : Int) ∧ cr = .int .u64 (b : Int) ∧ wr.ownsRow g 41 1 (.slice (some ⟨g, 0, none⟩) N N) N (u64s zs) ∧ Hid (SbAt ps zs zs0 k j b N) ∧ Hid (Gx g w1 wr)) (fun _ i _ => m + 1 - (intOf i).toNat)
        case atStart => exact ⟨0, 0, zs0, by omega, by omega, rfl, rfl, by first | exact hg.out.owns HOW.out | exact (hg.out.drewN _).owns HOW.out | exact ((hg.out.drewN _).drewN _).owns HOW.out, SbAt.start LZ.out HZ.out, by first | exact Gx.of_gr hg.out | exact Gx.of_gr (hg.out.drewN _) | exact Gx.of_gr ((hg.out.drewN _).drewN _)⟩
        case round =>
          clear hg
          obtain ⟨j, b, zs, hj, hb1, rfl, rfl, hown, hA, hgx⟩ := hrel
          by_cases hlt : j < m + 1
          · have hcell3 := owns_cell hown (k + j) (by omega)
            have hcellP := owns_cell (hgx.out.owns (Ne.symm PNE.out) HP.out) j hlt
            have hfz := hown.frozenAt (k + j)
            obtain ⟨o, ho⟩ : ∃ o, o = zs.getD (k + j) 0 := ⟨_, rfl⟩
            obtain ⟨p, hp⟩ : ∃ p, p = ps.getD j 0 := ⟨_, rfl⟩
            rw [← ho] at hcell3
            rw [← hp] at hcellP
            have bo : o < 4294967296 := ho ▸ getD_lt (by omega) hA.out.lt (k + j)
            have bp : p < 4294967296 := hp ▸ getD_lt (by omega) HT.out.lt j
            obtain ⟨s, hs⟩ : ∃ s, s = 4294967296 + o - p - b := ⟨_, rfl⟩
            have hs' : s + p + b = 4294967296 + o := by omega
            have NX : Hid (SbAt ps (zs.set (k + j) (s % 4294967296)) zs0 k (j + 1) (1 - s / 4294967296) N) := hA.out.next (by omega) ho hp bo bp hs'
            have EM : Hid ((4294967296 + (o : Int) - (p : Int) - (b : Int)) % 4294967296 = ((s % 4294967296 : Nat) : Int)) := by show _ = _; omega
            have ED : Hid (1 - (4294967296 + (o : Int) - (p : Int) - (b : Int)) / 4294967296 = ((1 - s / 4294967296 : Nat) : Int)) := by show _ = _; omega
            have i1 : (j : Int) ≤ (m : Int) := by omega
            have i2 : (k : Int) + (j : Int) < (N : Int) := by omega
            have i3 : (j : Int) < (m : Int) + 1 := by omega
            have bs : 1 - s / 4294967296 ≤ 1 := by omega
            clear ho hp hs hs'
            go_wp2
            go_quiet (fail)
            go_wp2
            go_roundw
            case rel =>
              rw [EM.out, ED.out]
              exact ⟨j + 1, 1 - s / 4294967296, _, by omega, bs, by go_num, rfl, owns_set (w := wr.drewN nq) hown (k + j) _, NX.out, Gx.setCell (hgx.out.trans (Gx.of_gr ((Gr.refl _).drewN nq))) rfl _⟩
            case measure => simp only [intOf]; omega
          · have hjm : j = m + 1 := by omega
            subst hjm
            have fin : Hid (nv 4294967296 zs + 4294967296 ^ k * nv 4294967296 ps = nv 4294967296 zs0) := hA.out.done (by rw [HT.out.len]; exact Nat.le_refl _) H0.out HLE.out
            go_wp2
            go_ret
            rw [VAL.out] at fin HLE
            exact ⟨zs, by rw [leB_t HLE.out]; rfl, hA.out.len, hA.out.lt, hown, (Gx.of_gr G1.out).trans hgx.out, fun _ => fin.out, fun h => absurd HLE.out h⟩
      · have HEQ : Hid (ps.getD j 0 = zs0.getD (k + j) 0) := by show _ = _; rw [← HO.out.1, ← HO.out.2]; exact heq
        subst heq
        go_wp2
        go_quiet (fail)
        go_wp2
        go_quiet (fail)
        go_wp2
        go_roundw
        case rel => exact ⟨j, by omega, by go_num, (fun t h1 h2 => by
          by_cases ht : t = j
          · rw [ht]; exact HEQ.out
          · exact hE.out t (by omega) h2), by first | exact hg.out | exact hg.out.drewN _ | exact (hg.out.drewN _).drewN _⟩
        case measure => simp only [intOf]; omega
      · have HGT : Hid (zs0.getD (k + j) 0 < ps.getD j 0) := by show _ < _; rw [← HO.out.1, ← HO.out.2]; exact hgt
        have NLE : Hid (¬ 4294967296 ^ k * nv 4294967296 ps ≤ nv 4294967296 zs0) := top_gt HT.out.lt HZ.out HT.out.len (by rw [LZ.out]; exact hkN) H0.out (by omega) hE.out HGT.out
        go_wp2
        go_quiet (fail)
        go_wp2
        go_quiet (fail)
        go_wp2
        go_ret
        rw [VAL.out] at NLE
        exact ⟨zs0, by rw [leB_f NLE.out]; rfl, LZ.out, HZ.out, by first | exact hg.out.owns HOW.out | exact (hg.out.drewN _).owns HOW.out | exact ((hg.out.drewN _).drewN _).owns HOW.out, by first | exact Gx.of_gr (G1.out.trans hg.out) | exact Gx.of_gr (G1.out.trans (hg.out.drewN _)) | exact Gx.of_gr (G1.out.trans ((hg.out.drewN _).drewN _)), fun h => absurd h NLE.out, fun _ => rfl⟩
end Go.Proofs.YtnmdnhmfmahjaaaGreatDoor
