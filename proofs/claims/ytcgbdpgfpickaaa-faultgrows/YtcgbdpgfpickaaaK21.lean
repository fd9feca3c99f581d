import Derived.Test.YtcgbdpgfpickaaaK20
import Derived.Deep.DeepCutAuto
import Derived.Deep.RegionWith
namespace Go.Proofs.Ytcgbdpgfpickaaa
open Go.RowKit
set_option linter.unusedVariables false

theorem drop_at {xs : List Nat} {k : Nat} (h : k < xs.length) : xs.drop k = xs.getD k 0 :: xs.drop (k + 1) := by
  rw [List.drop_eq_getElem_cons h, List.getD_eq_getElem?_getD, List.getElem?_eq_getElem h]; rfl
/-- what short's row holds, from the top down to k -/
structure ShAt (ds zs : List Nat) (k p r m : Nat) : Prop where
  len : zs.length = m
  lt : ∀ z ∈ zs, z < 4294967296
  val : nv 4294967296 (ds.drop k) = p * nv 4294967296 (zs.drop k) + r
  rlt : r < p
theorem ShAt.start {ds : List Nat} {p m : Nat} (hp : 0 < p) (hl : ds.length = m) : ShAt ds (List.replicate m 0) m p 0 m :=
  ⟨by simp, (fun z hz => by rw [List.mem_replicate] at hz; omega), by rw [List.drop_of_length_le (by omega), List.drop_of_length_le (by simp)]; simp [nv], hp⟩
theorem ShAt.next {ds zs : List Nat} {k p r m x s : Nat} (h : ShAt ds zs (k + 1) p r m) (hl : ds.length = m) (hk : k + 1 ≤ m) (hx : x = ds.getD k 0) (hx1 : x < 4294967296) (hs : s = r * 4294967296 + x) : ShAt ds (zs.set k (s / p)) k p (s % p) m := by
  have hp : 0 < p := Nat.lt_of_le_of_lt (Nat.zero_le _) h.rlt
  have hlz := h.len
  have hlt : s / p < 4294967296 := by
    refine Nat.div_lt_of_lt_mul ?_
    have := Nat.mul_le_mul_right 4294967296 (show r + 1 ≤ p from h.rlt)
    rw [Nat.add_mul, Nat.one_mul] at this
    omega
  refine ⟨by rw [List.length_set]; exact h.len, set_lt h.lt hlt, ?_, Nat.mod_lt _ hp⟩
  rw [drop_at (xs := ds) (by omega), drop_at (xs := zs.set k (s / p)) (by rw [List.length_set]; omega), getD_set _ _ _ _ (by omega), if_pos rfl, List.drop_set_of_lt (by omega)]
  simp only [nv]
  rw [h.val, ← hx]
  have e := Nat.div_add_mod s p
  generalize s / p = q at *
  generalize s % p = t at *
  generalize nv 4294967296 (zs.drop (k + 1)) = N at *
  rw [Nat.mul_add, Nat.mul_add, ← Nat.mul_assoc, ← Nat.mul_assoc, Nat.mul_comm 4294967296 p]
  omega
set_option maxRecDepth 10000 in
set_option maxHeartbeats 800000 in
theorem short101 (ad : Option Addr) (m cap p : Nat) (ds : List Nat) (w : World) (rd : Row w ad m cap ds) (hd : ∀ d ∈ ds, d < 4294967296) (hm : m ≤ 1099511627776) (hp : 0 < p) (hp1 : p ≤ 2147483648) :
    Calls Try.prog 83 #[.slice ad m cap, .int .u64 (p : Int)] w fun e w' => ∃ ad' n' cap' r, e = .returned (.tuple #[.slice ad' n' cap', .int .u64 (r : Nat)]) ∧ n' ≤ m ∧ Lim w' ad' n' cap' 4294967296 (nv 4294967296 ds / p) ∧ r = nv 4294967296 ds % p ∧ Gr w w' := by
  have RD : Hid (Row w ad m cap ds) := rd
  have HD : Hid (∀ d ∈ ds, d < 4294967296) := hd
  have hlen := rd.len
  have LEN : Hid (ds.length = m) := hlen
  clear rd hd hlen
  have hp0 : (((p : Nat) : Int) == 0) = false := by simp; omega
  go_enter Try.func83, Try.ntmps83
  go_wp2_with (at_make; refine wpList_made rfl _ _ rfl m _ rfl rfl ?_ ?_ ?_; rotate_right; intro w2 hown0 hg2)
  case' refine_1 => rfl
  case' refine_2 => omega
  have G2 : Hid (Gr w w2) := hg2
  clear hg2
  go_loopw [7, 8] (fun cr i wr => ∃ (k c : Nat) (zs : List Nat), k ≤ m ∧ i = .int .i64 ((k : Int) - 1) ∧ cr = .int .u64 (c : Int) ∧ c < p ∧ wr.ownsRow w.heap.size 47 1 (.slice (some ⟨w.heap.size, 0, none⟩) m m) m (u64s zs) ∧ Hid (ShAt ds zs k p c m) ∧ Hid (Gr w wr)) (fun _ i _ => (intOf i + 1).toNat)
  case atStart => exact ⟨m, 0, List.replicate m 0, by omega, rfl, rfl, hp, hown0, ShAt.start hp LEN.out, G2⟩
  case round =>
    obtain ⟨k, c, zs, hk, rfl, rfl, hc, hown, hA, hg⟩ := hrel
    by_cases hk0 : k = 0
    · subst hk0
      have hval := hA.out.val
      have hrl := hA.out.rlt
      rw [List.drop_zero, List.drop_zero] at hval
      obtain ⟨ad', cap', hEq, hrow⟩ := Row.of_owns hown
      simp only [Value.slice.injEq, true_and] at hEq
      obtain ⟨rfl, rfl⟩ := hEq
      have e1 : nv 4294967296 ds / p = nv 4294967296 zs := by
        rw [hval, Nat.mul_add_div hp, Nat.div_eq_of_lt hrl, Nat.add_zero]
      have e2 : nv 4294967296 ds % p = c := by
        rw [hval, Nat.mul_add_mod, Nat.mod_eq_of_lt hrl]
      have HT : Hid (Calls Try.prog 82 #[.slice (some ⟨w.heap.size, 0, none⟩) m m] wr fun e w' => ∃ j, e = .returned (.slice (some ⟨w.heap.size, 0, none⟩) j m) ∧ j ≤ m ∧ Lim wr (some ⟨w.heap.size, 0, none⟩) j m 4294967296 (nv 4294967296 ds / p) ∧ w' = wr) := by
        refine (low83 _ _ _ zs wr hrow).mono ?_
        rintro e w' ⟨j, rfl, hj, hz, ht, rfl⟩
        refine ⟨j, rfl, hj, ?_, rfl⟩
        have := trim_out hrow hA.out.lt hj hz ht
        rw [e1]
        exact this
      have E2 : Hid (c = nv 4294967296 ds % p) := e2.symm
      clear hrow hown e1 e2 hval
      go_wp2_with (go_at_call 82; with_reducible refine HT.out.mono ?_; rintro e w' ⟨j, rfl, hj, hl, rfl⟩)
      refine bodyPost_ret (v := .tuple #[.slice (some ⟨w.heap.size, 0, none⟩) j m, .int .u64 (c : Int)]) (by simp [results, Try.results83, go_sem]) rfl ⟨_, _, _, c, rfl, hj, hl, E2.out, hg.out⟩
    · obtain ⟨k, rfl⟩ : ∃ k', k = k' + 1 := ⟨k - 1, by omega⟩
      obtain ⟨p1, o1, rfl, hb1, hc1⟩ := RD.out.lt (by omega)
      have hcell1 := hc1 wr hg.out k (by omega)
      have hcell3 := owns_cell hown k (by omega)
      have hfz := hown.frozenAt k
      obtain ⟨x, hx⟩ : ∃ x, x = ds.getD k 0 := ⟨_, rfl⟩
      have bx : x < 4294967296 := hx ▸ getD_lt (by omega) HD.out k
      rw [← hx] at hcell1
      obtain ⟨s, hs⟩ : ∃ s, s = c * 4294967296 + x := ⟨_, rfl⟩
      have bs : s < 18446744073709551616 := by
        have : (c + 1) * 4294967296 ≤ 2147483648 * 4294967296 := Nat.mul_le_mul_right _ (by omega)
        omega
      have NX : Hid (ShAt ds (zs.set k (s / p)) k p (s % p) m) := hA.out.next LEN.out hk hx bx hs
      have E1 : Hid ((c : Int) * 4294967296 + (x : Int) = (s : Int)) := by show _ = _; omega
      have E2 : Hid ((s : Int) / (p : Int) = ((s / p : Nat) : Int)) := by show _ = _; rw [Int.natCast_ediv]
      have E3 : Hid ((s : Int) % (p : Int) = ((s % p : Nat) : Int)) := by show _ = _; rw [Int.natCast_emod]
      have i1 : (k : Int) < (m : Int) := by omega
      have bq : s % p < p := Nat.mod_lt _ hp
      clear hc1 hx
      go_wp2_with (first | (simp only [E1.out]) | (simp only [E2.out]) | (simp only [E3.out]))
      go_roundw
      case rel => exact ⟨k, s % p, _, by omega, by go_num, rfl, bq, owns_set hown k (s / p), NX.out, hg.out.setCell (Nat.le_refl _) _⟩
      case measure => simp only [intOf]; omega
end Go.Proofs.Ytcgbdpgfpickaaa
namespace Go.Proofs.Ytcgbdpgfpickaaa
open Go.RowKit
set_option linter.unusedVariables false

theorem Gr.gx {g : Nat} {a w w' : World} (h : Gr a w) (hg : a.heap.size ≤ g) (gx : Gx g w w') : Gr a w' :=
  ⟨gx.os.trans h.os, gx.output.trans h.output, Nat.le_trans h.size gx.size, fun k hk => (gx.block k (Nat.lt_of_lt_of_le hk h.size) (by omega)).trans (h.block k hk)⟩
theorem long_start {xs ys us vs : List Nat} {n m c : Nat} (hx : ∀ z ∈ xs, z < 4294967296) (hxl : xs.length = n) (hyl : ys.length = m + 1) (hmn : m + 1 ≤ n) (ht : 0 < ys.getD m 0) (hul : us.length = n + 1) (hu : ∀ z ∈ us, z < 4294967296) (huv : nv 4294967296 us = c * nv 4294967296 xs) (hvv : nv 4294967296 vs = c * nv 4294967296 ys) (hc : 0 < c) : LgAt us (List.replicate (n - m) 0) (n - m) (n + 1) (n - m) (nv 4294967296 vs) (c * nv 4294967296 xs) := by
  refine ⟨hul, by simp, hu, (fun z hz => by rw [List.mem_replicate] at hz; omega), by rw [nv_zeros, Nat.zero_mul, Nat.zero_add, huv], ?_, fun j _ => getD_rep _ _⟩
  have h1 := nv_lt 4294967296 xs hx
  rw [hxl] at h1
  have e := nv_take_succ 4294967296 ys m
  rw [nv_take_all _ _ _ (by omega)] at e
  have h2 : 4294967296 ^ m ≤ nv 4294967296 ys := by
    have := Nat.mul_le_mul_left (4294967296 ^ m) ht
    omega
  rw [huv, hvv]
  have h3 : 4294967296 ^ (n - m) * (c * nv 4294967296 ys) = c * (4294967296 ^ (n - m) * nv 4294967296 ys) := Nat.mul_left_comm _ _ _
  rw [h3]
  refine Nat.mul_lt_mul_of_pos_left (Nat.lt_of_lt_of_le h1 ?_) hc
  have h4 := Nat.mul_le_mul_left (4294967296 ^ (n - m)) h2
  rwa [← Nat.pow_add, show n - m + m = n by omega] at h4
theorem top_pos {ys vs : List Nat} {m c : Nat} (hyl : ys.length = m + 1) (ht : 0 < ys.getD m 0) (hvl : vs.length = m + 1) (hv : ∀ z ∈ vs, z < 4294967296) (hvv : nv 4294967296 vs = c * nv 4294967296 ys) (hc : 0 < c) : 0 < vs.getD m 0 := by
  rcases Nat.eq_zero_or_pos (vs.getD m 0) with h | h
  · exfalso
    have h1 : nv 4294967296 vs < 4294967296 ^ m := nv_small hv (fun i hi => by
      rcases Nat.lt_or_ge i (m + 1) with h3 | h3
      · obtain rfl : i = m := by omega
        exact h
      · rw [List.getD_eq_getElem?_getD, List.getElem?_eq_none (by omega)]; rfl)
    have e := nv_take_succ 4294967296 ys m
    rw [nv_take_all _ _ _ (by omega)] at e
    have h2 := Nat.mul_le_mul_left (4294967296 ^ m) ht
    have h3 := Nat.mul_le_mul_right (nv 4294967296 ys) hc
    omega
  · exact h
theorem lg_zero {us outs : List Nat} {k m L M V N : Nat} (h : LgAt us outs (k + 1) L M V N) (hV : V < 4294967296 ^ (m + 1)) : ∀ i, k + (m + 1 + 1) ≤ i → us.getD i 0 = 0 := by
  refine nv_zero_above h.ult ?_
  refine Nat.lt_of_lt_of_le h.lt ?_
  have := Nat.mul_le_mul_left (4294967296 ^ (k + 1)) (Nat.le_of_lt hV)
  rwa [← Nat.pow_add, show k + 1 + (m + 1) = k + (m + 1 + 1) by omega] at this
theorem div_lt_B {u k V : Nat} (h : u < 4294967296 ^ (k + 1) * V) : u / 4294967296 ^ k / V < 4294967296 := by
  rw [Nat.div_div_eq_div_mul]
  refine Nat.div_lt_of_lt_mul ?_
  rw [Nat.mul_right_comm, ← Nat.pow_succ]; exact h
theorem no_less {u k q V : Nat} (h : ¬ 4294967296 ^ k * (q * V) ≤ u) (hV : 0 < V) : u / 4294967296 ^ k / V < q := by
  rw [Nat.div_div_eq_div_mul]
  refine Nat.div_lt_of_lt_mul ?_
  rw [Nat.mul_assoc, Nat.mul_comm V]; omega
theorem guess_min {a g : Nat} (h1 : g ≤ a) (h2 : g < 4294967296) : g ≤ min a 4294967295 := by omega
theorem min_lt (a : Nat) : min a 4294967295 < 4294967296 := by omega
theorem min_cast {b u1 u0 vt : Nat} {B : Int} (hB : B = (b : Int)) : min (((u1 : Int) * B + (u0 : Int)) / (vt : Int)) 4294967295 = ((min ((u1 * b + u0) / vt) 4294967295 : Nat) : Int) := by
  have : ((u1 : Int) * B + (u0 : Int)) / (vt : Int) = (((u1 * b + u0) / vt : Nat) : Int) := by
    rw [hB, Int.natCast_ediv, Int.natCast_add, Int.natCast_mul]
  rw [this]
  generalize (u1 * b + u0) / vt = a
  omega
end Go.Proofs.Ytcgbdpgfpickaaa
namespace Go.Proofs.Ytcgbdpgfpickaaa
open Go.RowKit
set_option linter.unusedVariables false

set_option maxRecDepth 10000 in
set_option maxHeartbeats 800000 in
theorem shortB (ad : Option Addr) (m cap p : Nat) (ds : List Nat) (w : World) (rd : Row w ad m cap ds) (hd : ∀ d ∈ ds, d < 4294967296) (hm : m ≤ 1099511627776) (hp : 0 < p) (hp1 : p ≤ 4294967295) :
    Calls Try.prog 83 #[.slice ad m cap, .int .u64 (p : Int)] w fun e w' => ∃ ad' n' cap' r, e = .returned (.tuple #[.slice ad' n' cap', .int .u64 (r : Nat)]) ∧ n' ≤ m ∧ Lim w' ad' n' cap' 4294967296 (nv 4294967296 ds / p) ∧ r = nv 4294967296 ds % p ∧ Gr w w' := by
  have RD : Hid (Row w ad m cap ds) := rd
  have HD : Hid (∀ d ∈ ds, d < 4294967296) := hd
  have hlen := rd.len
  have LEN : Hid (ds.length = m) := hlen
  clear rd hd hlen
  have hp0 : (((p : Nat) : Int) == 0) = false := by simp; omega
  go_enter Try.func83, Try.ntmps83
  go_wp2_with (at_make; refine wpList_made rfl _ _ rfl m _ rfl rfl ?_ ?_ ?_; rotate_right; intro w2 hown0 hg2)
  case' refine_1 => rfl
  case' refine_2 => omega
  have G2 : Hid (Gr w w2) := hg2
  clear hg2
  go_loopw [7, 8] (fun cr i wr => ∃ (k c : Nat) (zs : List Nat), k ≤ m ∧ i = .int .i64 ((k : Int) - 1) ∧ cr = .int .u64 (c : Int) ∧ c < p ∧ wr.ownsRow w.heap.size 47 1 (.slice (some ⟨w.heap.size, 0, none⟩) m m) m (u64s zs) ∧ Hid (ShAt ds zs k p c m) ∧ Hid (Gr w wr)) (fun _ i _ => (intOf i + 1).toNat)
  case atStart => exact ⟨m, 0, List.replicate m 0, by omega, rfl, rfl, hp, hown0, ShAt.start hp LEN.out, G2⟩
  case round =>
    obtain ⟨k, c, zs, hk, rfl, rfl, hc, hown, hA, hg⟩ := hrel
    by_cases hk0 : k = 0
    · subst hk0
      have hval := hA.out.val
      have hrl := hA.out.rlt
      rw [List.drop_zero, List.drop_zero] at hval
      obtain ⟨ad', cap', hEq, hrow⟩ := Row.of_owns hown
      simp only [Value.slice.injEq, true_and] at hEq
      obtain ⟨rfl, rfl⟩ := hEq
      have e1 : nv 4294967296 ds / p = nv 4294967296 zs := by
        rw [hval, Nat.mul_add_div hp, Nat.div_eq_of_lt hrl, Nat.add_zero]
      have e2 : nv 4294967296 ds % p = c := by
        rw [hval, Nat.mul_add_mod, Nat.mod_eq_of_lt hrl]
      have HT : Hid (Calls Try.prog 82 #[.slice (some ⟨w.heap.size, 0, none⟩) m m] wr fun e w' => ∃ j, e = .returned (.slice (some ⟨w.heap.size, 0, none⟩) j m) ∧ j ≤ m ∧ Lim wr (some ⟨w.heap.size, 0, none⟩) j m 4294967296 (nv 4294967296 ds / p) ∧ w' = wr) := by
        refine (low83 _ _ _ zs wr hrow).mono ?_
        rintro e w' ⟨j, rfl, hj, hz, ht, rfl⟩
        refine ⟨j, rfl, hj, ?_, rfl⟩
        have := trim_out hrow hA.out.lt hj hz ht
        rw [e1]
        exact this
      have E2 : Hid (c = nv 4294967296 ds % p) := e2.symm
      clear hrow hown e1 e2 hval
      go_wp2_with (go_at_call 82; with_reducible refine HT.out.mono ?_; rintro e w' ⟨j, rfl, hj, hl, rfl⟩)
      refine bodyPost_ret (v := .tuple #[.slice (some ⟨w.heap.size, 0, none⟩) j m, .int .u64 (c : Int)]) (by simp [results, Try.results83, go_sem]) rfl ⟨_, _, _, c, rfl, hj, hl, E2.out, hg.out⟩
    · obtain ⟨k, rfl⟩ : ∃ k', k = k' + 1 := ⟨k - 1, by omega⟩
      obtain ⟨p1, o1, rfl, hb1, hc1⟩ := RD.out.lt (by omega)
      have hcell1 := hc1 wr hg.out k (by omega)
      have hcell3 := owns_cell hown k (by omega)
      have hfz := hown.frozenAt k
      obtain ⟨x, hx⟩ : ∃ x, x = ds.getD k 0 := ⟨_, rfl⟩
      have bx : x < 4294967296 := hx ▸ getD_lt (by omega) HD.out k
      rw [← hx] at hcell1
      obtain ⟨s, hs⟩ : ∃ s, s = c * 4294967296 + x := ⟨_, rfl⟩
      have bs : s < 18446744073709551616 := by
        have : (c + 1) * 4294967296 ≤ 4294967295 * 4294967296 := Nat.mul_le_mul_right _ (by omega)
        omega
      have NX : Hid (ShAt ds (zs.set k (s / p)) k p (s % p) m) := hA.out.next LEN.out hk hx bx hs
      have E1 : Hid ((c : Int) * 4294967296 + (x : Int) = (s : Int)) := by show _ = _; omega
      have E2 : Hid ((s : Int) / (p : Int) = ((s / p : Nat) : Int)) := by show _ = _; rw [Int.natCast_ediv]
      have E3 : Hid ((s : Int) % (p : Int) = ((s % p : Nat) : Int)) := by show _ = _; rw [Int.natCast_emod]
      have i1 : (k : Int) < (m : Int) := by omega
      have bq : s % p < p := Nat.mod_lt _ hp
      clear hc1 hx
      go_wp2_with (first | (simp only [E1.out]) | (simp only [E2.out]) | (simp only [E3.out]))
      go_roundw
      case rel => exact ⟨k, s % p, _, by omega, by go_num, rfl, bq, owns_set hown k (s / p), NX.out, hg.out.setCell (Nat.le_refl _) _⟩
      case measure => simp only [intOf]; omega

theorem natOfR (x : Nat) (w : World) (hx : x < 18446744073709551616) :
    Calls Try.prog 61 #[.int .u64 (x : Int)] w fun e w' => ∃ ad n cap, e = .returned (.slice ad n cap) ∧ Lim w' ad n cap 18446744073709551616 x ∧ Gr w w' := by
  have hrow : Row (w.alloc (.cells #[.int .u64 (x : Int)] 47)) (some ⟨w.heap.size, 0, none⟩) 1 1 [x] := by
    refine ⟨rfl, Nat.le_refl _, by omega, (fun h => by cases h), fun _ => ⟨w.heap.size, 0, rfl, by simp, fun j hj => ?_⟩⟩
    obtain rfl : j = 0 := by omega
    simp
  have T := trim77 _ 1 1 [x] _ hrow (by omega) (by simpa using hx)
  have e : nv 18446744073709551616 [x] = x := by simp [nv]
  rw [e] at T
  have H : Hid (Calls Try.prog 76 #[.slice (some ⟨w.heap.size, 0, none⟩) 1 1] (w.alloc (.cells #[.int .u64 (x : Int)] 47)) fun e w' => ∃ ad' n' cap', e = .returned (.slice ad' n' cap') ∧ Lim w' ad' n' cap' 18446744073709551616 x ∧ Gr (w.alloc (.cells #[.int .u64 (x : Int)] 47)) w') := T
  have G : Gr w (w.alloc (.cells #[.int .u64 (x : Int)] 47)) := (Gr.refl w).alloc _
  clear hrow T e
  go_enter Try.func61, Try.ntmps61
  go_wp2_with (go_at_call 76; (with_reducible refine H.out.mono ?_); rintro e w1 ⟨a1, n1, k1, rfl, hl, g⟩)
  go_ret
  exact ⟨_, _, _, rfl, hl, G.trans g⟩
theorem Dg.top {B n : Nat} {xs : List Nat} (h : Dg B n xs) {k : Nat} (hk : xs.length = k + 1) : 0 < xs.getD k 0 := by
  have h3 := h.2.2
  refine Nat.pos_of_ne_zero fun h0 => ?_
  have hB : 0 < B := Nat.lt_of_le_of_lt (Nat.zero_le _) (h.2.1 _ (getD_mem (show k < xs.length by omega)))
  have hz := h.lower hk
  have e := nv_take_succ B xs k
  rw [nv_take_all _ _ _ (by omega), h0, Nat.mul_zero, Nat.add_zero, h.1] at e
  have hl := nv_lt B (xs.take k) (fun z hz => h.2.1 z (List.mem_of_mem_take hz))
  rw [List.length_take, Nat.min_eq_left (by omega)] at hl
  omega
end Go.Proofs.Ytcgbdpgfpickaaa
namespace Go.Proofs.Ytcgbdpgfpickaaa
open Go.RowKit
set_option linter.unusedVariables false

theorem lim_same {w : World} {ad : Option Addr} {n cap x y : Nat} (h : Lim w ad n cap 18446744073709551616 x) (h' : Lim w ad n cap 18446744073709551616 y) : x = y := by
  obtain ⟨xs, rx, dx⟩ := h
  obtain ⟨ys, ry, dy⟩ := h'
  have : xs = ys := ext_getD (by rw [rx.len, ry.len]) fun j hj => by
    rw [rx.len] at hj
    obtain ⟨b, o, e1, _, c1⟩ := rx.cells (by omega)
    obtain ⟨b', o', e2, _, c2⟩ := ry.cells (by omega)
    rw [e1] at e2
    injection e2 with e2
    injection e2 with e3 e4
    subst e3 e4
    have := (c1 j hj).symm.trans (c2 j hj)
    injection this with this
    injection this with _ this
    exact Int.ofNat.inj this
  rw [← dx.1, ← dy.1, this]
/-- the number that lies in a slice's limbs -/
theorem lim_measure : ∃ M : Value → World → Nat, ∀ (ad : Option Addr) (n cap : Nat) (w : World) (x : Nat), Lim w ad n cap 18446744073709551616 x → M (.slice ad n cap) w = x := by
  classical
  refine ⟨fun v w => if h : ∃ x, ∃ ad n cap, v = .slice ad n cap ∧ Lim w ad n cap 18446744073709551616 x then h.choose else 0, fun ad n cap w x hx => ?_⟩
  have h : ∃ x, ∃ ad' n' cap', Value.slice ad n cap = .slice ad' n' cap' ∧ Lim w ad' n' cap' 18446744073709551616 x := ⟨x, ad, n, cap, rfl, hx⟩
  show (if h : ∃ x, ∃ ad' n' cap', Value.slice ad n cap = .slice ad' n' cap' ∧ Lim w ad' n' cap' 18446744073709551616 x then h.choose else 0) = x
  rw [dif_pos h]
  obtain ⟨a', n', c', e, hl⟩ := h.choose_spec
  injection e with e1 e2 e3
  subst e1 e2 e3
  exact lim_same hl hx
theorem root_start {a R : Nat} (h1 : R * R ≤ a) : R ≤ 1 * 2 ^ ((bl a + 1) / 2) := by
  rw [Nat.one_mul]
  refine Nat.le_of_lt (Nat.lt_of_not_le fun h => ?_)
  have h2 := Nat.mul_le_mul h h
  rw [← Nat.pow_add] at h2
  have h3 := bl_lt a
  have h4 : 2 ^ bl a ≤ 2 ^ ((bl a + 1) / 2 + (bl a + 1) / 2) := Nat.pow_le_pow_right (by omega) (by omega)
  omega
theorem sq_le_of {x R a : Nat} (h1 : x * x ≤ a) (h2 : a < (R + 1) * (R + 1)) : x ≤ R := by
  refine Nat.le_of_lt_succ (Nat.lt_of_not_le fun h => ?_)
  have h' : R + 1 ≤ x := h
  have := Nat.mul_le_mul h' h'
  omega
theorem bl_div (a x : Nat) : bl (a / x) ≤ bl a := bl_mono (Nat.div_le_self _ _)
theorem bl_add (x y k : Nat) (hx : bl x ≤ k) (hy : bl y ≤ k) : bl (x + y) ≤ k + 1 := by
  refine bl_le_of_lt ?_
  have h1 := Nat.lt_of_lt_of_le (bl_lt x) (Nat.pow_le_pow_right (n := 2) (by omega) hx)
  have h2 := Nat.lt_of_lt_of_le (bl_lt y) (Nat.pow_le_pow_right (n := 2) (by omega) hy)
  rw [Nat.pow_succ]; omega
end Go.Proofs.Ytcgbdpgfpickaaa
namespace Go.Proofs.Ytcgbdpgfpickaaa
open Go.RowKit
set_option linter.unusedVariables false

theorem nv_dropq {B : Nat} {ds : List Nat} (hB : 0 < B) (hd : ∀ d ∈ ds, d < B) (q : Nat) (hq : q ≤ ds.length) : nv B ds / B ^ q = nv B (ds.drop q) := by
  have h1 : nv B ds = nv B (ds.take q) + B ^ q * nv B (ds.drop q) := by
    conv => lhs; rw [← List.take_append_drop q ds, nv_append, List.length_take, Nat.min_eq_left hq]
  have h2 := nv_lt B (ds.take q) (fun d h => hd d (List.mem_of_mem_take h))
  rw [List.length_take, Nat.min_eq_left hq] at h2
  rw [h1, Nat.add_comm, Nat.mul_add_div (Nat.pow_pos hB), Nat.div_eq_of_lt h2, Nat.add_zero]
theorem Row.drop {w : World} {n cap : Nat} {xs : List Nat} {b off : Nat} (h : Row w (some ⟨b, off, none⟩) n cap xs) (q : Nat) (hq : q < n) : Row w (some ⟨b, off + q, none⟩) (n - q) (cap - q) (xs.drop q) := by
  have := h.le
  refine ⟨by rw [List.length_drop, h.len], by omega, by have := h.max; omega, (fun h => by cases h), fun hp => ?_⟩
  obtain ⟨b', off', e, hb, hc⟩ := h.cells (by omega)
  simp only [Option.some.injEq, Addr.mk.injEq, and_true] at e
  obtain ⟨rfl, rfl⟩ := e
  refine ⟨b, off + q, rfl, hb, fun j hj => ?_⟩
  rw [Nat.add_assoc, hc (q + j) (by omega), List.getD_eq_getElem?_getD, List.getD_eq_getElem?_getD, List.getElem?_drop]
/-- what NatDown tells -/
def DownR (w w' : World) (e : Ending) (v : Nat) : Prop := ∃ ad' n' cap' b, e = .returned (.tuple #[.slice ad' n' cap', .bool b]) ∧ Lim w' ad' n' cap' 18446744073709551616 v ∧ Gr w w'
set_option maxRecDepth 10000 in
set_option maxHeartbeats 1600000 in
theorem down83 (ad : Option Addr) (n1 c1 x n : Nat) (w : World) (hx : Lim w ad n1 c1 18446744073709551616 x) (hb : bl x ≤ 68719476736) (hn : n ≤ 68719476736) :
    Calls Try.prog 80 #[.slice ad n1 c1, .int .i64 (n : Int)] w fun e w' => DownR w w' e (x / 2 ^ n) := by
  have HH : Hid (Calls Try.prog 73 #[.slice ad n1 c1] w fun e w' => ∃ ad' n' cap', e = .returned (.slice ad' n' cap') ∧ n' ≤ 2147483650 ∧ Hid (Lim w' ad' n' cap' 4294967296 x) ∧ Gr w w') := halvesL ad n1 c1 x w hx hb
  clear hx
  obtain ⟨q, hq⟩ : ∃ q, q = n / 32 := ⟨_, rfl⟩
  obtain ⟨r, hr⟩ : ∃ r, r = n % 32 := ⟨_, rfl⟩
  have hr32 : r < 32 := by omega
  have eq : (n : Int) / 32 = (q : Int) := by omega
  have er : (n : Int) % 32 = (r : Int) := by omega
  have hqn : q ≤ 2147483648 := by omega
  have HN : Hid (n = 32 * q + r) := by show _ = _; omega
  clear hq hr
  go_enter Try.func80, Try.ntmps80
  go_wp2_with (go_at_call 73; (with_reducible refine HH.out.mono ?_); rintro e w1 ⟨a2, m, c2, rfl, hm, hl, g1⟩)
  obtain ⟨ds, rd, dg⟩ := hl.out
  have RD : Hid (Row w1 a2 m c2 ds) := rd
  have DG : Hid (Dg 4294967296 x ds) := dg
  have G1 : Hid (Gr w w1) := g1
  have hcm := rd.max
  have hcl := rd.le
  clear rd dg g1 hl
  go_loopw [7, 8] (fun lo i wr => ∃ (k : Nat) (b : Bool), k ≤ 2147483650 ∧ i = .int .i64 (k : Int) ∧ lo = .bool b ∧ Hid (Gr w1 wr)) (fun _ i _ => 2147483651 - (intOf i).toNat)
  case atStart => exact ⟨0, false, by omega, rfl, rfl, Gr.refl _⟩
  case round =>
    obtain ⟨k, b, hk, rfl, rfl, hg⟩ := hrel
    by_cases h1 : k < q
    · by_cases h2 : k < m
      · have i1 : (k : Int) < (q : Int) := by omega
        have i2 : (k : Int) < (m : Int) := by omega
        obtain ⟨p1, o1, rfl, hb1, hc1⟩ := RD.out.lt (by omega)
        have hcell1 := hc1 wr hg.out k h2
        generalize ds.getD k 0 = x at hcell1
        cases b
        · go_wp2_with (simp only [eq])
          go_roundw
          case rel => exact ⟨k + 1, _, by omega, by go_num, rfl, hg⟩
          case measure => simp only [intOf]; omega
        · go_wp2_with (simp only [eq])
          go_roundw
          case rel => exact ⟨k + 1, _, by omega, by go_num, rfl, hg⟩
          case measure => simp only [intOf]; omega
      · have i1 : (k : Int) < (q : Int) := by omega
        have i2 : ¬ (k : Int) < (m : Int) := by omega
        have i3 : (q : Int) ≥ (m : Int) := by omega
        have hz : x / 2 ^ n = 0 := Nat.div_eq_of_lt (by
          have h3 := DG.out.upper
          rw [RD.out.len, pow32] at h3
          exact Nat.lt_of_lt_of_le h3 (Nat.pow_le_pow_right (by omega) (by have := HN.out; omega)))
        have HZ : Hid (x / 2 ^ n = 0) := hz
        clear hz
        go_wp2_with (simp only [eq])
        refine bodyPost_ret (v := .tuple #[.slice none 0 0, .bool b]) (by simp [results, Try.results80, go_sem]) rfl (by unfold DownR; refine ⟨none, 0, 0, b, rfl, ?_, G1.out.trans hg.out⟩; rw [HZ.out]; exact ⟨[], Row.empty (by omega) (fun _ => rfl), Dg.nil⟩)
    · have i1 : ¬ (k : Int) < (q : Int) := by omega
      by_cases h3 : m ≤ q
      · have i3 : (q : Int) ≥ (m : Int) := by omega
        have hz : x / 2 ^ n = 0 := Nat.div_eq_of_lt (by
          have h3 := DG.out.upper
          rw [RD.out.len, pow32] at h3
          exact Nat.lt_of_lt_of_le h3 (Nat.pow_le_pow_right (by omega) (by have := HN.out; omega)))
        have HZ : Hid (x / 2 ^ n = 0) := hz
        clear hz
        go_wp2_with (simp only [eq])
        refine bodyPost_ret (v := .tuple #[.slice none 0 0, .bool b]) (by simp [results, Try.results80, go_sem]) rfl (by unfold DownR; refine ⟨none, 0, 0, b, rfl, ?_, G1.out.trans hg.out⟩; rw [HZ.out]; exact ⟨[], Row.empty (by omega) (fun _ => rfl), Dg.nil⟩)
      · have i3 : ¬ (q : Int) ≥ (m : Int) := by omega
        obtain ⟨wo, rfl⟩ : ∃ wo : World, wo = wr := ⟨_, rfl⟩
        go_wp2_with (simp only [eq])
        obtain ⟨p1, o1, rfl, hb1, hc1⟩ := RD.out.cells (by omega)
        clear hc1
        go_loopw [9, 10] (fun by' i wr => ∃ j p : Nat, j ≤ r ∧ i = .int .i64 (j : Int) ∧ by' = .int .u64 (p : Int) ∧ Hid (p = 2 ^ j) ∧ p ≤ 2147483648 ∧ wr = wo) (fun _ i _ => r - (intOf i).toNat)
        case atStart => exact ⟨0, 1, by omega, rfl, rfl, rfl, by omega, rfl⟩
        case round =>
          obtain ⟨j, p, hj, rfl, rfl, hp, hpb, rfl⟩ := hrel
          by_cases h4 : j < r
          · have i4 : (j : Int) < (r : Int) := by omega
            have NX : Hid (2 * p = 2 ^ (j + 1) ∧ 2 * p ≤ 2147483648) := by
              have h5 := two_pow_le (k := j + 1) (by omega)
              have h6 : 2 * p = 2 ^ (j + 1) := by rw [Nat.pow_succ, ← hp.out]; omega
              exact ⟨h6, by omega⟩
            have hpb2 := NX.out.2
            go_wp2_with (first | (simp only [er]))
            go_roundw
            case rel => exact ⟨j + 1, 2 * p, by omega, by go_num, by go_num, NX.out.1, NX.out.2, trivial⟩
            case measure => simp only [intOf]; omega
          · have hjr : j = r := by omega
            subst hjr
            have i4 : ¬ (j : Int) < (j : Int) := by omega
            have hp0 : 0 < p := by rw [hp.out]; exact Nat.two_pow_pos j
            have FIN : Hid (nv 4294967296 (ds.drop q) / p = x / 2 ^ n) := by
              show _ = _
              rw [← nv_dropq (by omega) DG.out.2.1 q (by rw [RD.out.len]; omega), DG.out.1, hp.out, HN.out, pow32, Nat.div_div_eq_div_mul, ← Nat.pow_add]
            have SH : Hid (Calls Try.prog 83 #[.slice (some ⟨p1, o1 + q, none⟩) (m - q) (c2 - q), .int .u64 (p : Int)] wr fun e w' => ∃ ad' n' cap' rr, e = .returned (.tuple #[.slice ad' n' cap', .int .u64 (rr : Nat)]) ∧ n' ≤ m - q ∧ Hid (Lim w' ad' n' cap' 4294967296 (x / 2 ^ n)) ∧ Gr wr w') := by
              refine (short101 _ _ _ p (ds.drop q) wr ((RD.out.gr hg.out).drop q (by omega)) (fun d hd => DG.out.2.1 d (List.mem_of_mem_drop hd)) (by omega) hp0 hpb).mono ?_
              rintro e w' ⟨ad', n', cap', rr, h1, h2, h3, _, h5⟩
              rw [FIN.out] at h3
              exact ⟨ad', n', cap', rr, h1, h2, h3, h5⟩
            have LB : Hid (∀ a3 n3 c3 w3, Lim w3 a3 n3 c3 4294967296 (x / 2 ^ n) → n3 ≤ 2147483650 → Calls Try.prog 74 #[.slice a3 n3 c3] w3 fun e w' => ∃ ad' n' cap', e = .returned (.slice ad' n' cap') ∧ Hid (Lim w' ad' n' cap' 18446744073709551616 (x / 2 ^ n)) ∧ Gr w3 w') := fun a3 n3 c3 w3 h1 h2 => limbsL a3 n3 c3 _ w3 h1 (by omega)
            clear hp FIN
            cases b
            · go_wp2_with (first | (simp only [er]) | (simp only [eq]) | (go_at_call 83; (with_reducible refine SH.out.mono ?_); rintro e w3 ⟨a3, n3, c3, rr, rfl, hn3, hl3, g3⟩) | (go_at_call 74; (with_reducible refine (LB.out _ _ _ _ hl3.out (by omega)).mono ?_); rintro e w4 ⟨a4, n4, c4, rfl, hl4, g4⟩))
              refine bodyPost_ret (v := .tuple #[.slice a4 n4 c4, .bool ((rr : Int) != 0)]) (by simp [results, Try.results80, go_sem]) rfl (by unfold DownR; exact ⟨a4, n4, c4, _, rfl, hl4.out, ((G1.out.trans hg.out).trans g3).trans g4⟩)
            · go_wp2_with (first | (simp only [er]) | (simp only [eq]) | (go_at_call 83; (with_reducible refine SH.out.mono ?_); rintro e w3 ⟨a3, n3, c3, rr, rfl, hn3, hl3, g3⟩) | (go_at_call 74; (with_reducible refine (LB.out _ _ _ _ hl3.out (by omega)).mono ?_); rintro e w4 ⟨a4, n4, c4, rfl, hl4, g4⟩))
              refine bodyPost_ret (v := .tuple #[.slice a4 n4 c4, .bool true]) (by simp [results, Try.results80, go_sem]) rfl (by unfold DownR; exact ⟨a4, n4, c4, _, rfl, hl4.out, ((G1.out.trans hg.out).trans g3).trans g4⟩)
end Go.Proofs.Ytcgbdpgfpickaaa
