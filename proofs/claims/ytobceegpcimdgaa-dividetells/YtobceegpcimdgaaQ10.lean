import Derived.Test.YtobceegpcimdgaaQ09
import Derived.Test.YtobceegpcimdgaaQ03
namespace Go.Proofs.Ytobceegpcimdgaa
open Go.RowKit
set_option linter.unusedVariables false

theorem Gr.gx {g : Nat} {a w w' : World} (h : Gr a w) (hg : a.heap.size ≤ g) (gx : Gx g w w') : Gr a w' :=
  ⟨gx.os.trans h.os, gx.output.trans h.output, Nat.le_trans h.size gx.size, fun k hk => (gx.block k (Nat.lt_of_lt_of_le hk h.size) (by omega)).trans (h.block k hk)⟩
theorem long_start {xs ys us vs : List Nat} {n m c : Nat} (hx : ∀ z ∈ xs, z < 4294967296) (hxl : xs.length = n) (hyl : ys.length = m + 1) (hmn : m + 1 ≤ n) (ht : 0 < ys.getD m 0) (hul : us.length = n + 1) (hu : ∀ z ∈ us, z < 4294967296) (huv : nv 4294967296 us = c * nv 4294967296 xs) (hvv : nv 4294967296 vs = c * nv 4294967296 ys) (hc : 0 < c) : LgAt us (List.replicate (n - m) 0) (n - m) (n + 1) (n - m) (nv 4294967296 vs) (c * nv 4294967296 xs) := by
  refine ⟨hul, by simp, hu, (fun z hz => by rw [List.mem_replicate] at hz; omega), by rw [nv_zeros, Nat.zero_mul, Nat.zero_add, huv], ?_, fun j _ => getD_rep _ _⟩
  have h1 := nv_lt 4294967296 xs hx
  rw [hxl] at h1
  have e := nv_take_succ 4294967296 ys m
  rw [nv_take_all _ _ _ (by omega)] at e
  have h2 : 4294967296 ^ m ≤ nv 4294967296 ys := by
    have := Nat.mul_le_mul_left (4294967296 ^ m) ht
    omega
  rw [huv, hvv]
  have h3 : 4294967296 ^ (n - m) * (c * nv 4294967296 ys) = c * (4294967296 ^ (n - m) * nv 4294967296 ys) := Nat.mul_left_comm _ _ _
  rw [h3]
  refine Nat.mul_lt_mul_of_pos_left (Nat.lt_of_lt_of_le h1 ?_) hc
  have h4 := Nat.mul_le_mul_left (4294967296 ^ (n - m)) h2
  rwa [← Nat.pow_add, show n - m + m = n by omega] at h4
theorem top_pos {ys vs : List Nat} {m c : Nat} (hyl : ys.length = m + 1) (ht : 0 < ys.getD m 0) (hvl : vs.length = m + 1) (hv : ∀ z ∈ vs, z < 4294967296) (hvv : nv 4294967296 vs = c * nv 4294967296 ys) (hc : 0 < c) : 0 < vs.getD m 0 := by
  rcases Nat.eq_zero_or_pos (vs.getD m 0) with h | h
  · exfalso
    have h1 : nv 4294967296 vs < 4294967296 ^ m := nv_small hv (fun i hi => by
      rcases Nat.lt_or_ge i (m + 1) with h3 | h3
      · obtain rfl : i = m := by omega
        exact h
      · rw [List.getD_eq_getElem?_getD, List.getElem?_eq_none (by omega)]; rfl)
    have e := nv_take_succ 4294967296 ys m
    rw [nv_take_all _ _ _ (by omega)] at e
    have h2 := Nat.mul_le_mul_left (4294967296 ^ m) ht
    have h3 := Nat.mul_le_mul_right (nv 4294967296 ys) hc
    omega
  · exact h
theorem lg_zero {us outs : List Nat} {k m L M V N : Nat} (h : LgAt us outs (k + 1) L M V N) (hV : V < 4294967296 ^ (m + 1)) : ∀ i, k + (m + 1 + 1) ≤ i → us.getD i 0 = 0 := by
  refine nv_zero_above h.ult ?_
  refine Nat.lt_of_lt_of_le h.lt ?_
  have := Nat.mul_le_mul_left (4294967296 ^ (k + 1)) (Nat.le_of_lt hV)
  rwa [← Nat.pow_add, show k + 1 + (m + 1) = k + (m + 1 + 1) by omega] at this
theorem div_lt_B {u k V : Nat} (h : u < 4294967296 ^ (k + 1) * V) : u / 4294967296 ^ k / V < 4294967296 := by
  rw [Nat.div_div_eq_div_mul]
  refine Nat.div_lt_of_lt_mul ?_
  rw [Nat.mul_right_comm, ← Nat.pow_succ]; exact h
theorem no_less {u k q V : Nat} (h : ¬ 4294967296 ^ k * (q * V) ≤ u) (hV : 0 < V) : u / 4294967296 ^ k / V < q := by
  rw [Nat.div_div_eq_div_mul]
  refine Nat.div_lt_of_lt_mul ?_
  rw [Nat.mul_assoc, Nat.mul_comm V]; omega
theorem guess_min {a g : Nat} (h1 : g ≤ a) (h2 : g < 4294967296) : g ≤ min a 4294967295 := by omega
theorem min_lt (a : Nat) : min a 4294967295 < 4294967296 := by omega
theorem min_cast {b u1 u0 vt : Nat} {B : Int} (hB : B = (b : Int)) : min (((u1 : Int) * B + (u0 : Int)) / (vt : Int)) 4294967295 = ((min ((u1 * b + u0) / vt) 4294967295 : Nat) : Int) := by
  have : ((u1 : Int) * B + (u0 : Int)) / (vt : Int) = (((u1 * b + u0) / vt : Nat) : Int) := by
    rw [hB, Int.natCast_ediv, Int.natCast_add, Int.natCast_mul]
  rw [this]
  generalize (u1 * b + u0) / vt = a
  omega
set_option maxRecDepth 10000 in
set_option maxHeartbeats 8000000 in
theorem longR (ad1 ad2 : Option Addr) (n m c1 c2 : Nat) (xs ys : List Nat) (w : World) (rx : Row w ad1 n c1 xs) (ry : Row w ad2 (m + 1) c2 ys) (hx : ∀ z ∈ xs, z < 4294967296) (hy : ∀ z ∈ ys, z < 4294967296) (hmn : m + 1 ≤ n) (hn : n ≤ 549755813888) (ht : 0 < ys.getD m 0) :
    Calls Try.prog 67 #[.slice ad1 n c1, .slice ad2 (m + 1) c2] w fun e w' => ∃ a' n' c' a'' n'' c'', e = .returned (.tuple #[.slice a' n' c', .slice a'' n'' c'']) ∧ n' ≤ n ∧ n'' ≤ n + 1 ∧ Lim w' a' n' c' 4294967296 (nv 4294967296 xs / nv 4294967296 ys) ∧ Lim w' a'' n'' c'' 4294967296 (nv 4294967296 xs % nv 4294967296 ys) ∧ Gr w w' := by
  have bt := getD_lt (by omega) hy m
  have sc := scale_ok ht bt
  have sf := scale_fits hy ry.len ht
  obtain ⟨t, htt⟩ : ∃ t, t = ys.getD m 0 := ⟨_, rfl⟩
  obtain ⟨s, hs⟩ : ∃ s, s = 4294967296 / (ys.getD m 0 + 1) := ⟨_, rfl⟩
  rw [← hs] at sc sf
  obtain ⟨p2, o2, rfl, hp2, hc2⟩ := ry.cells (by omega)
  have hcT := hc2 m (by omega)
  rw [← htt] at hcT bt
  have hlx := rx.le
  have hmx := rx.max
  have hly := ry.le
  have hmy := ry.max
  have EQ : Hid ((4294967296 : Int) / ((t : Int) + 1) = (s : Int)) := by
    show _ = _
    rw [hs, ← htt, Int.natCast_ediv]; rfl
  have hxv : s * nv 4294967296 xs < 4294967296 ^ (n + 1) := by
    have h1 := nv_lt 4294967296 xs hx
    rw [rx.len] at h1
    rw [Nat.pow_succ, Nat.mul_comm s]
    exact Nat.mul_lt_mul_of_lt_of_le h1 (by omega) (by omega)
  have HT1 : Hid (Calls Try.prog 100 #[.slice ad1 n c1, .int .u64 (s : Int), .int .i64 ((n : Int) + 1)] w fun e w' => ∃ us, e = .returned (.slice (some ⟨w.heap.size, 0, none⟩) (n + 1) (n + 1)) ∧ w'.ownsRow w.heap.size 51 1 (.slice (some ⟨w.heap.size, 0, none⟩) (n + 1) (n + 1)) (n + 1) (u64s us) ∧ (us.length = n + 1 ∧ (∀ z ∈ us, z < 4294967296) ∧ nv 4294967296 us = s * nv 4294967296 xs) ∧ Gr w w') := (timesR ad1 n c1 s (n + 1) xs w rx hx (by omega) (by omega)).mono fun e w' ⟨zs, c, h1, h2, h3, h4⟩ => ⟨zs, h1, h2, ⟨h3.len, h3.lt, h3.done (by rw [rx.len]; omega) hxv⟩, h4⟩
  have HT2 : Hid (∀ w1, Gr w w1 → Calls Try.prog 100 #[.slice (some ⟨p2, o2, none⟩) (m + 1) c2, .int .u64 (s : Int), .int .i64 ((m : Int) + 1)] w1 fun e w' => ∃ vs, e = .returned (.slice (some ⟨w1.heap.size, 0, none⟩) (m + 1) (m + 1)) ∧ w'.ownsRow w1.heap.size 51 1 (.slice (some ⟨w1.heap.size, 0, none⟩) (m + 1) (m + 1)) (m + 1) (u64s vs) ∧ (vs.length = m + 1 ∧ (∀ z ∈ vs, z < 4294967296) ∧ nv 4294967296 vs = s * nv 4294967296 ys) ∧ Gr w1 w') := fun w1 g => (timesR _ (m + 1) c2 s (m + 1) ys w1 (ry.gr g) hy (by omega) (by omega)).mono fun e w' ⟨zs, c, h1, h2, h3, h4⟩ => ⟨zs, h1, h2, ⟨h3.len, h3.lt, h3.done (by rw [ry.len]; omega) sf⟩, h4⟩
  have FX : Hid ((∀ z ∈ xs, z < 4294967296) ∧ xs.length = n ∧ ys.length = m + 1 ∧ 0 < ys.getD m 0) := ⟨hx, rx.len, ry.len, ht⟩
  have SF : Hid (s * nv 4294967296 ys < 4294967296 ^ (m + 1)) := sf
  obtain ⟨sc1, sc2, sc3⟩ := sc
  have S1 : Hid (0 < s ∧ s ≤ 2147483648) := ⟨sc1, sc2⟩
  have tok : True := trivial
  clear hc2 hx hy ht htt hs sf hxv rx ry sc3
  go_enter Try.func67, Try.ntmps67
  go_wp2_with (first | (simp only [EQ.out]) | (go_at_call 100; have _t := tok; (with_reducible refine HT1.out.mono ?_); rintro e w1 ⟨us0, rfl, hU, hUs, g1⟩; clear tok) | (go_at_call 100; (with_reducible refine (HT2.out _ g1).mono ?_); rintro e w2 ⟨vs, rfl, hV, hVs, g2⟩) | (at_make; refine wpList_made rfl _ _ rfl (n - m) _ rfl rfl ?_ ?_ ?_; rotate_right; intro w3 hO g3))
  case' refine_1 => omega
  case' refine_2 => omega
  have lu : w.heap.size < w1.heap.size := (hU.lt _ rfl).2
  have lv : w1.heap.size < w2.heap.size := (hV.lt _ rfl).2
  have lo : w2.heap.size < w3.heap.size := (hO.lt _ rfl).2
  have hU3 := (g2.trans g3).owns hU
  have hV3 := g3.owns hV
  have hVpos : 0 < nv 4294967296 vs := by
    rw [hVs.2.2]
    refine Nat.mul_pos S1.out.1 ?_
    have e := nv_take_succ 4294967296 ys m
    rw [nv_take_all _ _ _ (by rw [FX.out.2.2.1]; omega)] at e
    have h2 := Nat.mul_le_mul_left (4294967296 ^ m) FX.out.2.2.2
    have h3 : 0 < 4294967296 ^ m := Nat.pow_pos (by omega)
    omega
  have htp := top_pos FX.out.2.2.1 FX.out.2.2.2 hVs.1 hVs.2.1 hVs.2.2 S1.out.1
  have ST : Hid (LgAt us0 (List.replicate (n - m) 0) (n - m) (n + 1) (n - m) (nv 4294967296 vs) (s * nv 4294967296 xs)) := long_start FX.out.1 FX.out.2.1 FX.out.2.2.1 hmn FX.out.2.2.2 hUs.1 hUs.2.1 hUs.2.2 hVs.2.2 S1.out.1
  have HV : Hid (vs.length = m + 1 ∧ (∀ z ∈ vs, z < 4294967296) ∧ nv 4294967296 vs = s * nv 4294967296 ys ∧ 0 < nv 4294967296 vs ∧ 0 < vs.getD m 0 ∧ nv 4294967296 vs < 4294967296 ^ (m + 1)) := ⟨hVs.1, hVs.2.1, hVs.2.2, hVpos, htp, by rw [hVs.2.2]; exact SF.out⟩
  have G3 : Hid (Gr w w3) := (g1.trans g2).trans g3
  clear hU hV hUs hVs g1 g2 g3 hVpos htp HT1 HT2
  go_loopw [10] (fun i wr => ∃ (k : Nat) (us outs : List Nat), k ≤ n - m ∧ i = .int .i64 ((k : Int) - 1) ∧ wr.ownsRow w.heap.size 51 1 (.slice (some ⟨w.heap.size, 0, none⟩) (n + 1) (n + 1)) (n + 1) (u64s us) ∧ wr.ownsRow w1.heap.size 51 1 (.slice (some ⟨w1.heap.size, 0, none⟩) (m + 1) (m + 1)) (m + 1) (u64s vs) ∧ wr.ownsRow w2.heap.size 51 1 (.slice (some ⟨w2.heap.size, 0, none⟩) (n - m) (n - m)) (n - m) (u64s outs) ∧ Hid (LgAt us outs k (n + 1) (n - m) (nv 4294967296 vs) (s * nv 4294967296 xs)) ∧ Hid (Gr w wr)) (fun i _ => (intOf i + 1).toNat)
  case atStart => exact ⟨n - m, us0, List.replicate (n - m) 0, by omega, by rw [show ((n - m : Nat) : Int) - 1 = (n : Int) - ((m : Int) + 1) by omega], hU3, hV3, hO, ST, G3⟩
  case round =>
    clear hU3 hV3 hO ST
    obtain ⟨k, us, outs, hk, rfl, hU, hV, hO, hA, hg⟩ := hrel
    by_cases hk0 : k = 0
    · subst hk0
      obtain ⟨dn1, dn2⟩ := hA.out.done HV.out.2.2.2.1
      rw [HV.out.2.2.1, Nat.mul_div_mul_left _ _ S1.out.1] at dn1
      rw [HV.out.2.2.1, Nat.mul_mod_mul_left] at dn2
      have DV : nv 4294967296 us / s = nv 4294967296 xs % nv 4294967296 ys := by rw [dn2, Nat.mul_div_cancel_left _ S1.out.1]
      obtain ⟨ad', cap', hEq, hrow⟩ := Row.of_owns hU
      simp only [Value.slice.injEq, true_and] at hEq
      obtain ⟨rfl, rfl⟩ := hEq
      have HL1 : Hid (Calls Try.prog 99 #[.slice (some ⟨w.heap.size, 0, none⟩) (n + 1) (n + 1)] wr fun e w' => ∃ j, e = .returned (.slice (some ⟨w.heap.size, 0, none⟩) j (n + 1)) ∧ j ≤ n + 1 ∧ Hid (Lim wr (some ⟨w.heap.size, 0, none⟩) j (n + 1) 4294967296 (nv 4294967296 us)) ∧ wr = w') := (low83 _ _ _ us wr hrow).mono fun e w' ⟨j, h1, h2, h3, h4, h5⟩ => ⟨j, h1, h2, trim_out hrow hA.out.ult h2 h3 h4, h5.symm⟩
      have HS : Hid (∀ j, j ≤ n + 1 → Lim wr (some ⟨w.heap.size, 0, none⟩) j (n + 1) 4294967296 (nv 4294967296 us) → Calls Try.prog 65 #[.slice (some ⟨w.heap.size, 0, none⟩) j (n + 1), .int .u64 (s : Int)] wr fun e w' => ∃ ad' n' cap' r, e = .returned (.tuple #[.slice ad' n' cap', .int .u64 ((r : Nat) : Int)]) ∧ n' ≤ j ∧ Hid (Lim w' ad' n' cap' 4294967296 (nv 4294967296 xs % nv 4294967296 ys)) ∧ Gr wr w') := fun j hj hl => by
        obtain ⟨ds, rd, dd⟩ := hl
        refine (short101 _ j _ s ds wr rd dd.2.1 (by omega) S1.out.1 S1.out.2).mono ?_
        rintro e w' ⟨ad', n', cap', r, h1, h2, h3, h4, h5⟩
        rw [dd.1, DV] at h3
        exact ⟨ad', n', cap', r, h1, h2, h3, h5⟩
      have HL2 : Hid (∀ w5, Gr wr w5 → Calls Try.prog 99 #[.slice (some ⟨w2.heap.size, 0, none⟩) (n - m) (n - m)] w5 fun e w' => ∃ j, e = .returned (.slice (some ⟨w2.heap.size, 0, none⟩) j (n - m)) ∧ j ≤ n - m ∧ Hid (Lim w5 (some ⟨w2.heap.size, 0, none⟩) j (n - m) 4294967296 (nv 4294967296 xs / nv 4294967296 ys)) ∧ w5 = w') := fun w5 g5 => by
        obtain ⟨ad', cap', hEq, hrow⟩ := Row.of_owns (g5.owns hO)
        simp only [Value.slice.injEq, true_and] at hEq
        obtain ⟨rfl, rfl⟩ := hEq
        refine (low83 _ _ _ outs w5 hrow).mono ?_
        rintro e w' ⟨j, h1, h2, h3, h4, h5⟩
        have := trim_out hrow hA.out.olt h2 h3 h4
        rw [dn1] at this
        exact ⟨j, h1, h2, this, h5.symm⟩
      have tok : True := trivial
      clear hrow hU hV hO hA dn1 dn2 DV
      go_wp2_with (first | (go_at_call 99; have _t := tok; (with_reducible refine HL1.out.mono ?_); rintro e w4 ⟨j1, rfl, hj1, hl1, rfl⟩; clear tok) | (go_at_call 65; (with_reducible refine (HS.out _ hj1 hl1.out).mono ?_); rintro e w5 ⟨a5, n5, k5, r5, rfl, hn5, hl5, g5⟩) | (go_at_call 99; (with_reducible refine (HL2.out _ g5).mono ?_); rintro e w6 ⟨j6, rfl, hj6, hl6, rfl⟩))
      go_ret2
      exact ⟨_, _, _, _, _, _, rfl, by omega, by omega, hl6.out, hl5.out, hg.out.trans g5⟩
    · obtain ⟨k, rfl⟩ : ∃ k', k = k' + 1 := ⟨k - 1, by omega⟩
      rw [show ((k + 1 : Nat) : Int) - 1 = (k : Int) by omega]
      have hcu1 := owns_cell hU (k + (m + 1)) (by omega)
      have hcu0 := owns_cell hU (k + m) (by omega)
      have hcv := owns_cell hV m (by omega)
      obtain ⟨u1, hu1⟩ : ∃ u1, u1 = us.getD (k + (m + 1)) 0 := ⟨_, rfl⟩
      obtain ⟨u0, hu0⟩ : ∃ u0, u0 = us.getD (k + m) 0 := ⟨_, rfl⟩
      obtain ⟨vt, hvt⟩ : ∃ vt, vt = vs.getD m 0 := ⟨_, rfl⟩
      have b1 : u1 < 4294967296 := hu1 ▸ getD_lt (by omega) hA.out.ult _
      have b0 : u0 < 4294967296 := hu0 ▸ getD_lt (by omega) hA.out.ult _
      have bv : vt < 4294967296 := hvt ▸ getD_lt (by omega) HV.out.2.1 _
      have pv : 0 < vt := hvt ▸ HV.out.2.2.2.2.1
      have GE : nv 4294967296 us / 4294967296 ^ k / nv 4294967296 vs ≤ (u1 * 4294967296 + u0) / vt := by
        rw [hu1, hu0, hvt]
        exact guess_ge hA.out.ult HV.out.2.1 HV.out.1 (by rw [hA.out.ulen]; omega) (lg_zero hA.out HV.out.2.2.2.2.2) HV.out.2.2.2.2.1
      rw [← hu1] at hcu1
      rw [← hu0] at hcu0
      rw [← hvt] at hcv
      obtain ⟨q0, hq0⟩ : ∃ q0, q0 = min ((u1 * 4294967296 + u0) / vt) 4294967295 := ⟨_, rfl⟩
      have GT : Hid (nv 4294967296 us / 4294967296 ^ k / nv 4294967296 vs ≤ q0) := by
        rw [hq0]
        exact guess_min GE (div_lt_B hA.out.lt)
      have EQ0 : Hid (min (((u1 : Int) * 4294967296 + (u0 : Int)) / (vt : Int)) 4294967295 = (q0 : Int)) := by
        rw [hq0]
        exact min_cast (b := 4294967296) rfl
      have bq0 : q0 < 4294967296 := hq0 ▸ min_lt _
      have pv' : (((vt : Nat) : Int) == 0) = false := by simp; omega
      have i1 : (k : Int) + ((m : Int) + 1) < (n : Int) + 1 := by omega
      have i2 : (k : Int) + (m : Int) < (n : Int) + 1 := by omega
      have i3 : (k : Int) < ((n - m : Nat) : Int) := by omega
      clear hu1 hu0 hvt GE hq0
      go_wp2
      go_quiet (fail)
      go_wp2_with (simp only [EQ0.out])
      have hU2 := ((Gr.refl wr).drewN nq).owns hU
      have hV2 := ((Gr.refl wr).drewN nq).owns hV
      have hO2 := ((Gr.refl wr).drewN nq).owns hO
      have hg2 : Hid (Gr w (wr.drewN nq)) := hg.out.drewN nq
      have ne1 : w.heap.size ≠ w1.heap.size := by omega
      have ne2 : w.heap.size ≠ w2.heap.size := by omega
      have ne3 : w1.heap.size ≠ w2.heap.size := by omega
      have NE : Hid (w1.heap.size ≠ w.heap.size ∧ w2.heap.size ≠ w.heap.size ∧ w.heap.size ≠ w2.heap.size ∧ w1.heap.size ≠ w2.heap.size ∧ w.heap.size ≤ w2.heap.size) := ⟨ne1.symm, ne2.symm, ne2, ne3, by omega⟩
      clear hU hV hO hg hcu1 hcu0 hcv b1 b0 bv pv pv' EQ0 i1 i2 ne1 ne2 ne3
      rw [show k + (m + 1) - 1 = k + m by omega]
      generalize wr.drewN nq = wi at *
      clear wr
      go_loopw [12] (fun q wr => ∃ (c : Nat), q = .int .u64 (c : Int) ∧ c < 4294967296 ∧ Hid (nv 4294967296 us / 4294967296 ^ k / nv 4294967296 vs ≤ c) ∧ wr.ownsRow w.heap.size 51 1 (.slice (some ⟨w.heap.size, 0, none⟩) (n + 1) (n + 1)) (n + 1) (u64s us) ∧ wr.ownsRow w1.heap.size 51 1 (.slice (some ⟨w1.heap.size, 0, none⟩) (m + 1) (m + 1)) (m + 1) (u64s vs) ∧ wr.ownsRow w2.heap.size 51 1 (.slice (some ⟨w2.heap.size, 0, none⟩) (n - m) (n - m)) (n - m) (u64s outs) ∧ Hid (Gr w wr)) (fun q _ => (intOf q).toNat)
      case atStart => exact ⟨q0, rfl, bq0, GT, hU2, hV2, hO2, hg2⟩
      case round =>
        clear hU2 hV2 hO2 hg2
        obtain ⟨c, rfl, hc, hTc, hU, hV, hO, hg⟩ := hrel
        obtain ⟨ad', cap', hEq, hrow⟩ := Row.of_owns hV
        simp only [Value.slice.injEq, true_and] at hEq
        obtain ⟨rfl, rfl⟩ := hEq
        have L := lessR w.heap.size (n + 1) k (m + 1) (m + 1) c (some ⟨w1.heap.size, 0, none⟩) vs us wr hrow HV.out.2.1 ((hU.lt _ rfl).2) hU hA.out.ult (by omega) (by omega) (lg_zero hA.out HV.out.2.2.2.2.2) hc
        by_cases hle : 4294967296 ^ k * (c * nv 4294967296 vs) ≤ nv 4294967296 us
        · rw [leB_t hle] at L
          have LY : Hid (Calls Try.prog 101 #[.slice (some ⟨w.heap.size, 0, none⟩) (n + 1) (n + 1), .int .i64 (k : Int), .slice (some ⟨w1.heap.size, 0, none⟩) (m + 1) (m + 1), .int .u64 (c : Int)] wr fun e w' => ∃ zs, e = .returned (.bool true) ∧ Hid (zs.length = n + 1 ∧ (∀ z ∈ zs, z < 4294967296) ∧ nv 4294967296 zs + 4294967296 ^ k * (c * nv 4294967296 vs) = nv 4294967296 us) ∧ w'.ownsRow w.heap.size 51 1 (.slice (some ⟨w.heap.size, 0, none⟩) (n + 1) (n + 1)) (n + 1) (u64s zs) ∧ w'.ownsRow w1.heap.size 51 1 (.slice (some ⟨w1.heap.size, 0, none⟩) (m + 1) (m + 1)) (m + 1) (u64s vs) ∧ w'.ownsRow w2.heap.size 51 1 (.slice (some ⟨w2.heap.size, 0, none⟩) (n - m) (n - m)) (n - m) (u64s outs) ∧ Hid (Gr w w')) := L.mono fun e w' ⟨zs, h1, h2, h3, h4, h5, h6, h7⟩ => ⟨zs, h1, ⟨h2, h3, h6 hle⟩, h4, h5.owns NE.out.1 hV, h5.owns NE.out.2.1 hO, hg.out.gx (Nat.le_refl _) h5⟩
          clear L hle hU hV hO hg hrow
          go_wp2_with (go_at_call 101; (with_reducible refine LY.out.mono ?_); rintro e w4 ⟨zs, rfl, hzs, hU4, hV4, hO4, hg4⟩; have hcO := owns_cell hO4 k (by omega); have hfO := hO4.frozenAt k)
          go_roundw
          case rel => exact ⟨k, zs, outs.set k c, by omega, by go_num, Gx.owns (Gx.setCell (Gx.refl w2.heap.size w4) rfl _) NE.out.2.2.1 hU4, Gx.owns (Gx.setCell (Gx.refl w2.heap.size w4) rfl _) NE.out.2.2.2.1 hV4, owns_set hO4 k c, hA.out.next (by omega) HV.out.2.2.2.1 hzs.out.1 hzs.out.2.1 hc hzs.out.2.2 hTc.out, hg4.out.setCell NE.out.2.2.2.2 _⟩
          case measure => simp only [intOf]; omega
        · have hlt := no_less hle HV.out.2.2.2.1
          rw [leB_f hle] at L
          have c1' : 1 ≤ c := Nat.lt_of_le_of_lt (Nat.zero_le _) hlt
          have LT : Hid (nv 4294967296 us / 4294967296 ^ k / nv 4294967296 vs ≤ c - 1) := Nat.le_pred_of_lt hlt
          have LN : Hid (Calls Try.prog 101 #[.slice (some ⟨w.heap.size, 0, none⟩) (n + 1) (n + 1), .int .i64 (k : Int), .slice (some ⟨w1.heap.size, 0, none⟩) (m + 1) (m + 1), .int .u64 (c : Int)] wr fun e w' => e = .returned (.bool false) ∧ w'.ownsRow w.heap.size 51 1 (.slice (some ⟨w.heap.size, 0, none⟩) (n + 1) (n + 1)) (n + 1) (u64s us) ∧ w'.ownsRow w1.heap.size 51 1 (.slice (some ⟨w1.heap.size, 0, none⟩) (m + 1) (m + 1)) (m + 1) (u64s vs) ∧ w'.ownsRow w2.heap.size 51 1 (.slice (some ⟨w2.heap.size, 0, none⟩) (n - m) (n - m)) (n - m) (u64s outs) ∧ Hid (Gr w w')) := L.mono fun e w' ⟨zs, h1, h2, h3, h4, h5, h6, h7⟩ => ⟨h1, by have := h7 hle; subst this; exact h4, h5.owns NE.out.1 hV, h5.owns NE.out.2.1 hO, hg.out.gx (Nat.le_refl _) h5⟩
          clear L hle hU hV hO hg hrow hlt
          go_wp2_with (go_at_call 101; (with_reducible refine LN.out.mono ?_); rintro e w4 ⟨rfl, hU4, hV4, hO4, hg4⟩)
          go_roundw
          case rel => exact ⟨c - 1, by rw [show ((c - 1 : Nat) : Int) = (c : Int) - 1 by omega], by omega, LT.out, hU4, hV4, hO4, hg4.out⟩
          case measure => simp only [intOf]; omega
end Go.Proofs.Ytobceegpcimdgaa
namespace Go.Proofs.Ytobceegpcimdgaa
open Go.RowKit
set_option linter.unusedVariables false

end Go.Proofs.Ytobceegpcimdgaa
namespace Go.Proofs.Ytobceegpcimdgaa
open Go.RowKit
set_option linter.unusedVariables false

end Go.Proofs.Ytobceegpcimdgaa
