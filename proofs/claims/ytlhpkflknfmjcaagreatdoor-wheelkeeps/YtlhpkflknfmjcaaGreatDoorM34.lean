import Derived.Test.YtlhpkflknfmjcaaGreatDoorM33
import Derived.Test.YtlhpkflknfmjcaaGreatDoorM25
import Derived.Deep.DeepCutAuto
import Derived.Deep.RegionWith
namespace Go.Proofs.YtlhpkflknfmjcaaGreatDoor
open Go.RowKit
set_option linter.unusedVariables false

theorem Gr.gx {g : Nat} {a w w' : World} (h : Gr a w) (hg : a.heap.size ≤ g) (gx : Gx g w w') : Gr a w' :=
  ⟨gx.os.trans h.os, gx.output.trans h.output, Nat.le_trans h.size gx.size, fun k hk => (gx.block k (Nat.lt_of_lt_of_le hk h.size) (by omega)).trans (h.block k hk)⟩
theorem long_start {xs ys us vs : List Nat} {n m c : Nat} (hx : ∀ z ∈ xs, z < 4294967296) (hxl : xs.length = n) (hyl : ys.length = m + 1) (hmn : m + 1 ≤ n) (ht : 0 < ys.getD m 0) (hul : us.length = n + 1) (hu : ∀ z ∈ us, z < 4294967296) (huv : nv 4294967296 us = c * nv 4294967296 xs) (hvv : nv 4294967296 vs = c * nv 4294967296 ys) (hc : 0 < c) : LgAt us (List.replicate (n - m) 0) (n - m) (n + 1) (n - m) (nv 4294967296 vs) (c * nv 4294967296 xs) := by
  refine ⟨hul, by simp, hu, (fun z hz => by rw [List.mem_replicate] at hz; omega), by rw [nv_zeros, Nat.zero_mul, Nat.zero_add, huv], ?_, fun j _ => getD_rep _ _⟩
  have h1 := nv_lt 4294967296 xs hx
  rw [hxl] at h1
  have e := nv_take_succ 4294967296 ys m
  rw [nv_take_all _ _ _ (by omega)] at e
  have h2 : 4294967296 ^ m ≤ nv 4294967296 ys := by
    have := Nat.mul_le_mul_left (4294967296 ^ m) ht
    omega
  rw [huv, hvv]
  have h3 : 4294967296 ^ (n - m) * (c * nv 4294967296 ys) = c * (4294967296 ^ (n - m) * nv 4294967296 ys) := Nat.mul_left_comm _ _ _
  rw [h3]
  refine Nat.mul_lt_mul_of_pos_left (Nat.lt_of_lt_of_le h1 ?_) hc
  have h4 := Nat.mul_le_mul_left (4294967296 ^ (n - m)) h2
  rwa [← Nat.pow_add, show n - m + m = n by omega] at h4
theorem top_pos {ys vs : List Nat} {m c : Nat} (hyl : ys.length = m + 1) (ht : 0 < ys.getD m 0) (hvl : vs.length = m + 1) (hv : ∀ z ∈ vs, z < 4294967296) (hvv : nv 4294967296 vs = c * nv 4294967296 ys) (hc : 0 < c) : 0 < vs.getD m 0 := by
  rcases Nat.eq_zero_or_pos (vs.getD m 0) with h | h
  · exfalso
    have h1 : nv 4294967296 vs < 4294967296 ^ m := nv_small hv (fun i hi => by
      rcases Nat.lt_or_ge i (m + 1) with h3 | h3
      · obtain rfl : i = m := by omega
        exact h
      · rw [List.getD_eq_getElem?_getD, List.getElem?_eq_none (by omega)]; rfl)
    have e := nv_take_succ 4294967296 ys m
    rw [nv_take_all _ _ _ (by omega)] at e
    have h2 := Nat.mul_le_mul_left (4294967296 ^ m) ht
    have h3 := Nat.mul_le_mul_right (nv 4294967296 ys) hc
    omega
  · exact h
theorem lg_zero {us outs : List Nat} {k m L M V N : Nat} (h : LgAt us outs (k + 1) L M V N) (hV : V < 4294967296 ^ (m + 1)) : ∀ i, k + (m + 1 + 1) ≤ i → us.getD i 0 = 0 := by
  refine nv_zero_above h.ult ?_
  refine Nat.lt_of_lt_of_le h.lt ?_
  have := Nat.mul_le_mul_left (4294967296 ^ (k + 1)) (Nat.le_of_lt hV)
  rwa [← Nat.pow_add, show k + 1 + (m + 1) = k + (m + 1 + 1) by omega] at this
theorem div_lt_B {u k V : Nat} (h : u < 4294967296 ^ (k + 1) * V) : u / 4294967296 ^ k / V < 4294967296 := by
  rw [Nat.div_div_eq_div_mul]
  refine Nat.div_lt_of_lt_mul ?_
  rw [Nat.mul_right_comm, ← Nat.pow_succ]; exact h
theorem no_less {u k q V : Nat} (h : ¬ 4294967296 ^ k * (q * V) ≤ u) (hV : 0 < V) : u / 4294967296 ^ k / V < q := by
  rw [Nat.div_div_eq_div_mul]
  refine Nat.div_lt_of_lt_mul ?_
  rw [Nat.mul_assoc, Nat.mul_comm V]; omega
theorem guess_min {a g : Nat} (h1 : g ≤ a) (h2 : g < 4294967296) : g ≤ min a 4294967295 := by omega
theorem min_lt (a : Nat) : min a 4294967295 < 4294967296 := by omega
theorem min_cast {b u1 u0 vt : Nat} {B : Int} (hB : B = (b : Int)) : min (((u1 : Int) * B + (u0 : Int)) / (vt : Int)) 4294967295 = ((min ((u1 * b + u0) / vt) 4294967295 : Nat) : Int) := by
  have : ((u1 : Int) * B + (u0 : Int)) / (vt : Int) = (((u1 * b + u0) / vt : Nat) : Int) := by
    rw [hB, Int.natCast_ediv, Int.natCast_add, Int.natCast_mul]
  rw [this]
  generalize (u1 * b + u0) / vt = a
  omega
set_option maxRecDepth 10000 in
set_option maxHeartbeats 8000000 in
theorem longR (ad1 ad2 : Option Addr) (n m c1 c2 : Nat) (xs ys : List Nat) (w : World) (rx : Row w ad1 n c1 xs) (ry : Row w ad2 (m + 1) c2 ys) (hx : ∀ z ∈ xs, z < 4294967296) (hy : ∀ z ∈ ys, z < 4294967296) (hmn : m + 1 ≤ n) (hn : n ≤ 549755813888) (ht : 0 < ys.getD m 0) :
    Calls Tryz.prog 226 #[.slice ad1 n c1, .slice ad2 (m + 1) c2] w fun e w' => ∃ a' n' c' a'' n'' c'', e = .returned (.tuple #[.slice a' n' c', .slice a'' n'' c'']) ∧ n' ≤ n ∧ n'' ≤ n + 1 ∧ Lim w' a' n' c' 4294967296 (nv 4294967296 xs / nv 4294967296 ys) ∧ Lim w' a'' n'' c'' 4294967296 (nv 4294967296 xs % nv 4294967296 ys) ∧ Gr w w' := by
  have bt := getD_lt (by omega) hy m
  have sc := scale_ok ht bt
  have sf := scale_fits hy ry.len ht
  obtain ⟨t, htt⟩ : ∃ t, t = ys.getD m 0 := ⟨_, rfl⟩
  obtain ⟨s, hs⟩ : ∃ s, s = 4294967296 / (ys.getD m 0 + 1) := ⟨_, rfl⟩
  rw [← hs] at sc sf
  obtain ⟨p2, o2, rfl, hp2, hc2⟩ := ry.cells (by omega)
  have hcT := hc2 m (by omega)
  rw [← htt] at hcT bt
  have hlx := rx.le
  have hmx := rx.max
  have hly := ry.le
  have hmy := ry.max
  have EQ : Hid ((4294967296 : Int) / ((t : Int) + 1) = (s : Int)) := by
    show _ = _
    rw [hs, ← htt, Int.natCast_ediv]; rfl
  have hxv : s * nv 4294967296 xs < 4294967296 ^ (n + 1) := by
    have h1 := nv_lt 4294967296 xs hx
    rw [rx.len] at h1
    rw [Nat.pow_succ, Nat.mul_comm s]
    exact Nat.mul_lt_mul_of_lt_of_le h1 (by omega) (by omega)
  have HT1 : Hid (Calls Tryz.prog 227 #[.slice ad1 n c1, .int .u64 (s : Int), .int .i64 ((n : Int) + 1)] w fun e w' => ∃ us, e = .returned (.slice (some ⟨w.heap.size, 0, none⟩) (n + 1) (n + 1)) ∧ w'.ownsRow w.heap.size 91 1 (.slice (some ⟨w.heap.size, 0, none⟩) (n + 1) (n + 1)) (n + 1) (u64s us) ∧ (us.length = n + 1 ∧ (∀ z ∈ us, z < 4294967296) ∧ nv 4294967296 us = s * nv 4294967296 xs) ∧ Gr w w') := (timesR ad1 n c1 s (n + 1) xs w rx hx (by omega) (by omega)).mono fun e w' ⟨zs, c, h1, h2, h3, h4⟩ => ⟨zs, h1, h2, ⟨h3.len, h3.lt, h3.done (by rw [rx.len]; omega) hxv⟩, h4⟩
  have HT2 : Hid (∀ w1, Gr w w1 → Calls Tryz.prog 227 #[.slice (some ⟨p2, o2, none⟩) (m + 1) c2, .int .u64 (s : Int), .int .i64 ((m : Int) + 1)] w1 fun e w' => ∃ vs, e = .returned (.slice (some ⟨w1.heap.size, 0, none⟩) (m + 1) (m + 1)) ∧ w'.ownsRow w1.heap.size 91 1 (.slice (some ⟨w1.heap.size, 0, none⟩) (m + 1) (m + 1)) (m + 1) (u64s vs) ∧ (vs.length = m + 1 ∧ (∀ z ∈ vs, z < 4294967296) ∧ nv 4294967296 vs = s * nv 4294967296 ys) ∧ Gr w1 w') := fun w1 g => (timesR _ (m + 1) c2 s (m + 1) ys w1 (ry.gr g) hy (by omega) (by omega)).mono fun e w' ⟨zs, c, h1, h2, h3, h4⟩ => ⟨zs, h1, h2, ⟨h3.len, h3.lt, h3.done (by rw [ry.len]; omega) sf⟩, h4⟩
  have FX : Hid ((∀ z ∈ xs, z < 4294967296) ∧ xs.length = n ∧ ys.length = m + 1 ∧ 0 < ys.getD m 0) := ⟨hx, rx.len, ry.len, ht⟩
  have SF : Hid (s * nv 4294967296 ys < 4294967296 ^ (m + 1)) := sf
  obtain ⟨sc1, sc2, sc3⟩ := sc
  have S1 : Hid (0 < s ∧ s ≤ 2147483648) := ⟨sc1, sc2⟩
  have tok : True := trivial
  clear hc2 hx hy ht htt hs sf hxv rx ry sc3
  go_enter Tryz.func226, Tryz.ntmps226
  go_wp2_with (first | (simp only [EQ.out]) | (go_at_call 227; have _t := tok; (with_reducible refine HT1.out.mono ?_); rintro e w1 ⟨us0, rfl, hU, hUs, g1⟩; clear tok) | (go_at_call 227; (with_reducible refine (HT2.out _ g1).mono ?_); rintro e w2 ⟨vs, rfl, hV, hVs, g2⟩) | (at_make; refine wpList_made rfl _ _ rfl (n - m) _ rfl rfl ?_ ?_ ?_; rotate_right; intro w3 hO g3))
  case' refine_1 => omega
  case' refine_2 => omega
  have lu : w.heap.size < w1.heap.size := (hU.lt _ rfl).2
  have lv : w1.heap.size < w2.heap.size := (hV.lt _ rfl).2
  have lo : w2.heap.size < w3.heap.size := (hO.lt _ rfl).2
  have hU3 := (g2.trans g3).owns hU
  have hV3 := g3.owns hV
  have hVpos : 0 < nv 4294967296 vs := by
    rw [hVs.2.2]
    refine Nat.mul_pos S1.out.1 ?_
    have e := nv_take_succ 4294967296 ys m
    rw [nv_take_all _ _ _ (by rw [FX.out.2.2.1]; omega)] at e
    have h2 := Nat.mul_le_mul_left (4294967296 ^ m) FX.out.2.2.2
    have h3 : 0 < 4294967296 ^ m := Nat.pow_pos (by omega)
    omega
  have htp := top_pos FX.out.2.2.1 FX.out.2.2.2 hVs.1 hVs.2.1 hVs.2.2 S1.out.1
  have ST : Hid (LgAt us0 (List.replicate (n - m) 0) (n - m) (n + 1) (n - m) (nv 4294967296 vs) (s * nv 4294967296 xs)) := long_start FX.out.1 FX.out.2.1 FX.out.2.2.1 hmn FX.out.2.2.2 hUs.1 hUs.2.1 hUs.2.2 hVs.2.2 S1.out.1
  have HV : Hid (vs.length = m + 1 ∧ (∀ z ∈ vs, z < 4294967296) ∧ nv 4294967296 vs = s * nv 4294967296 ys ∧ 0 < nv 4294967296 vs ∧ 0 < vs.getD m 0 ∧ nv 4294967296 vs < 4294967296 ^ (m + 1)) := ⟨hVs.1, hVs.2.1, hVs.2.2, hVpos, htp, by rw [hVs.2.2]; exact SF.out⟩
  have G3 : Hid (Gr w w3) := (g1.trans g2).trans g3
  clear hU hV hUs hVs g1 g2 g3 hVpos htp HT1 HT2
  go_loopw [10] (fun i wr => ∃ (k : Nat) (us outs : List Nat), k ≤ n - m ∧ i = .int .i64 ((k : Int) - 1) ∧ wr.ownsRow w.heap.size 91 1 (.slice (some ⟨w.heap.size, 0, none⟩) (n + 1) (n + 1)) (n + 1) (u64s us) ∧ wr.ownsRow w1.heap.size 91 1 (.slice (some ⟨w1.heap.size, 0, none⟩) (m + 1) (m + 1)) (m + 1) (u64s vs) ∧ wr.ownsRow w2.heap.size 91 1 (.slice (some ⟨w2.heap.size, 0, none⟩) (n - m) (n - m)) (n - m) (u64s outs) ∧ Hid (LgAt us outs k (n + 1) (n - m) (nv 4294967296 vs) (s * nv 4294967296 xs)) ∧ Hid (Gr w wr)) (fun i _ => (intOf i + 1).toNat)
  case atStart => exact ⟨n - m, us0, List.replicate (n - m) 0, by omega, by rw [show ((n - m : Nat) : Int) - 1 = (n : Int) - ((m : Int) + 1) by omega], hU3, hV3, hO, ST, G3⟩
  case round =>
    clear hU3 hV3 hO ST
    obtain ⟨k, us, outs, hk, rfl, hU, hV, hO, hA, hg⟩ := hrel
    by_cases hk0 : k = 0
    · subst hk0
      obtain ⟨dn1, dn2⟩ := hA.out.done HV.out.2.2.2.1
      rw [HV.out.2.2.1, Nat.mul_div_mul_left _ _ S1.out.1] at dn1
      rw [HV.out.2.2.1, Nat.mul_mod_mul_left] at dn2
      have DV : nv 4294967296 us / s = nv 4294967296 xs % nv 4294967296 ys := by rw [dn2, Nat.mul_div_cancel_left _ S1.out.1]
      obtain ⟨ad', cap', hEq, hrow⟩ := Row.of_owns hU
      simp only [Value.slice.injEq, true_and] at hEq
      obtain ⟨rfl, rfl⟩ := hEq
      have HL1 : Hid (Calls Tryz.prog 154 #[.slice (some ⟨w.heap.size, 0, none⟩) (n + 1) (n + 1)] wr fun e w' => ∃ j, e = .returned (.slice (some ⟨w.heap.size, 0, none⟩) j (n + 1)) ∧ j ≤ n + 1 ∧ Hid (Lim wr (some ⟨w.heap.size, 0, none⟩) j (n + 1) 4294967296 (nv 4294967296 us)) ∧ wr = w') := (low83 _ _ _ us wr hrow).mono fun e w' ⟨j, h1, h2, h3, h4, h5⟩ => ⟨j, h1, h2, trim_out hrow hA.out.ult h2 h3 h4, h5.symm⟩
      have HS : Hid (∀ j, j ≤ n + 1 → Lim wr (some ⟨w.heap.size, 0, none⟩) j (n + 1) 4294967296 (nv 4294967296 us) → Calls Tryz.prog 183 #[.slice (some ⟨w.heap.size, 0, none⟩) j (n + 1), .int .u64 (s : Int)] wr fun e w' => ∃ ad' n' cap' r, e = .returned (.tuple #[.slice ad' n' cap', .int .u64 ((r : Nat) : Int)]) ∧ n' ≤ j ∧ Hid (Lim w' ad' n' cap' 4294967296 (nv 4294967296 xs % nv 4294967296 ys)) ∧ Gr wr w') := fun j hj hl => by
        obtain ⟨ds, rd, dd⟩ := hl
        refine (short101 _ j _ s ds wr rd dd.2.1 (by omega) S1.out.1 S1.out.2).mono ?_
        rintro e w' ⟨ad', n', cap', r, h1, h2, h3, h4, h5⟩
        rw [dd.1, DV] at h3
        exact ⟨ad', n', cap', r, h1, h2, h3, h5⟩
      have HL2 : Hid (∀ w5, Gr wr w5 → Calls Tryz.prog 154 #[.slice (some ⟨w2.heap.size, 0, none⟩) (n - m) (n - m)] w5 fun e w' => ∃ j, e = .returned (.slice (some ⟨w2.heap.size, 0, none⟩) j (n - m)) ∧ j ≤ n - m ∧ Hid (Lim w5 (some ⟨w2.heap.size, 0, none⟩) j (n - m) 4294967296 (nv 4294967296 xs / nv 4294967296 ys)) ∧ w5 = w') := fun w5 g5 => by
        obtain ⟨ad', cap', hEq, hrow⟩ := Row.of_owns (g5.owns hO)
        simp only [Value.slice.injEq, true_and] at hEq
        obtain ⟨rfl, rfl⟩ := hEq
        refine (low83 _ _ _ outs w5 hrow).mono ?_
        rintro e w' ⟨j, h1, h2, h3, h4, h5⟩
        have := trim_out hrow hA.out.olt h2 h3 h4
        rw [dn1] at this
        exact ⟨j, h1, h2, this, h5.symm⟩
      have tok : True := trivial
      clear hrow hU hV hO hA dn1 dn2 DV
      go_wp2_with (first | (go_at_call 154; have _t := tok; (with_reducible refine HL1.out.mono ?_); rintro e w4 ⟨j1, rfl, hj1, hl1, rfl⟩; clear tok) | (go_at_call 183; (with_reducible refine (HS.out _ hj1 hl1.out).mono ?_); rintro e w5 ⟨a5, n5, k5, r5, rfl, hn5, hl5, g5⟩) | (go_at_call 154; (with_reducible refine (HL2.out _ g5).mono ?_); rintro e w6 ⟨j6, rfl, hj6, hl6, rfl⟩))
      go_ret2
      exact ⟨_, _, _, _, _, _, rfl, by omega, by omega, hl6.out, hl5.out, hg.out.trans g5⟩
    · obtain ⟨k, rfl⟩ : ∃ k', k = k' + 1 := ⟨k - 1, by omega⟩
      rw [show ((k + 1 : Nat) : Int) - 1 = (k : Int) by omega]
      have hcu1 := owns_cell hU (k + (m + 1)) (by omega)
      have hcu0 := owns_cell hU (k + m) (by omega)
      have hcv := owns_cell hV m (by omega)
      obtain ⟨u1, hu1⟩ : ∃ u1, u1 = us.getD (k + (m + 1)) 0 := ⟨_, rfl⟩
      obtain ⟨u0, hu0⟩ : ∃ u0, u0 = us.getD (k + m) 0 := ⟨_, rfl⟩
      obtain ⟨vt, hvt⟩ : ∃ vt, vt = vs.getD m 0 := ⟨_, rfl⟩
      have b1 : u1 < 4294967296 := hu1 ▸ getD_lt (by omega) hA.out.ult _
      have b0 : u0 < 4294967296 := hu0 ▸ getD_lt (by omega) hA.out.ult _
      have bv : vt < 4294967296 := hvt ▸ getD_lt (by omega) HV.out.2.1 _
      have pv : 0 < vt := hvt ▸ HV.out.2.2.2.2.1
      have GE : nv 4294967296 us / 4294967296 ^ k / nv 4294967296 vs ≤ (u1 * 4294967296 + u0) / vt := by
        rw [hu1, hu0, hvt]
        exact guess_ge hA.out.ult HV.out.2.1 HV.out.1 (by rw [hA.out.ulen]; omega) (lg_zero hA.out HV.out.2.2.2.2.2) HV.out.2.2.2.2.1
      rw [← hu1] at hcu1
      rw [← hu0] at hcu0
      rw [← hvt] at hcv
      obtain ⟨q0, hq0⟩ : ∃ q0, q0 = min ((u1 * 4294967296 + u0) / vt) 4294967295 := ⟨_, rfl⟩
      have GT : Hid (nv 4294967296 us / 4294967296 ^ k / nv 4294967296 vs ≤ q0) := by
        rw [hq0]
        exact guess_min GE (div_lt_B hA.out.lt)
      have EQ0 : Hid (min (((u1 : Int) * 4294967296 + (u0 : Int)) / (vt : Int)) 4294967295 = (q0 : Int)) := by
        rw [hq0]
        exact min_cast (b := 4294967296) rfl
      have bq0 : q0 < 4294967296 := hq0 ▸ min_lt _
      have pv' : (((vt : Nat) : Int) == 0) = false := by simp; omega
      have i1 : (k : Int) + ((m : Int) + 1) < (n : Int) + 1 := by omega
      have i2 : (k : Int) + (m : Int) < (n : Int) + 1 := by omega
      have i3 : (k : Int) < ((n - m : Nat) : Int) := by omega
      clear hu1 hu0 hvt GE hq0
      go_wp2
      go_quiet (fail)
      go_wp2_with (simp only [EQ0.out])
      have hU2 := ((Gr.refl wr).drewN nq).owns hU
      have hV2 := ((Gr.refl wr).drewN nq).owns hV
      have hO2 := ((Gr.refl wr).drewN nq).owns hO
      have hg2 : Hid (Gr w (wr.drewN nq)) := hg.out.drewN nq
      have ne1 : w.heap.size ≠ w1.heap.size := by omega
      have ne2 : w.heap.size ≠ w2.heap.size := by omega
      have ne3 : w1.heap.size ≠ w2.heap.size := by omega
      have NE : Hid (w1.heap.size ≠ w.heap.size ∧ w2.heap.size ≠ w.heap.size ∧ w.heap.size ≠ w2.heap.size ∧ w1.heap.size ≠ w2.heap.size ∧ w.heap.size ≤ w2.heap.size) := ⟨ne1.symm, ne2.symm, ne2, ne3, by omega⟩
      clear hU hV hO hg hcu1 hcu0 hcv b1 b0 bv pv pv' EQ0 i1 i2 ne1 ne2 ne3
      rw [show k + (m + 1) - 1 = k + m by omega]
      generalize wr.drewN nq = wi at *
      clear wr
      go_loopw [12] (fun q wr => ∃ (c : Nat), q = .int .u64 (c : Int) ∧ c < 4294967296 ∧ Hid (nv 4294967296 us / 4294967296 ^ k / nv 4294967296 vs ≤ c) ∧ wr.ownsRow w.heap.size 91 1 (.slice (some ⟨w.heap.size, 0, none⟩) (n + 1) (n + 1)) (n + 1) (u64s us) ∧ wr.ownsRow w1.heap.size 91 1 (.slice (some ⟨w1.heap.size, 0, none⟩) (m + 1) (m + 1)) (m + 1) (u64s vs) ∧ wr.ownsRow w2.heap.size 91 1 (.slice (some ⟨w2.heap.size, 0, none⟩) (n - m) (n - m)) (n - m) (u64s outs) ∧ Hid (Gr w wr)) (fun q _ => (intOf q).toNat)
      case atStart => exact ⟨q0, rfl, bq0, GT, hU2, hV2, hO2, hg2⟩
      case round =>
        clear hU2 hV2 hO2 hg2
        obtain ⟨c, rfl, hc, hTc, hU, hV, hO, hg⟩ := hrel
        obtain ⟨ad', cap', hEq, hrow⟩ := Row.of_owns hV
        simp only [Value.slice.injEq, true_and] at hEq
        obtain ⟨rfl, rfl⟩ := hEq
        have L := lessR w.heap.size (n + 1) k (m + 1) (m + 1) c (some ⟨w1.heap.size, 0, none⟩) vs us wr hrow HV.out.2.1 ((hU.lt _ rfl).2) hU hA.out.ult (by omega) (by omega) (lg_zero hA.out HV.out.2.2.2.2.2) hc
        by_cases hle : 4294967296 ^ k * (c * nv 4294967296 vs) ≤ nv 4294967296 us
        · rw [leB_t hle] at L
          have LY : Hid (Calls Tryz.prog 228 #[.slice (some ⟨w.heap.size, 0, none⟩) (n + 1) (n + 1), .int .i64 (k : Int), .slice (some ⟨w1.heap.size, 0, none⟩) (m + 1) (m + 1), .int .u64 (c : Int)] wr fun e w' => ∃ zs, e = .returned (.bool true) ∧ Hid (zs.length = n + 1 ∧ (∀ z ∈ zs, z < 4294967296) ∧ nv 4294967296 zs + 4294967296 ^ k * (c * nv 4294967296 vs) = nv 4294967296 us) ∧ w'.ownsRow w.heap.size 91 1 (.slice (some ⟨w.heap.size, 0, none⟩) (n + 1) (n + 1)) (n + 1) (u64s zs) ∧ w'.ownsRow w1.heap.size 91 1 (.slice (some ⟨w1.heap.size, 0, none⟩) (m + 1) (m + 1)) (m + 1) (u64s vs) ∧ w'.ownsRow w2.heap.size 91 1 (.slice (some ⟨w2.heap.size, 0, none⟩) (n - m) (n - m)) (n - m) (u64s outs) ∧ Hid (Gr w w')) := L.mono fun e w' ⟨zs, h1, h2, h3, h4, h5, h6, h7⟩ => ⟨zs, h1, ⟨h2, h3, h6 hle⟩, h4, h5.owns NE.out.1 hV, h5.owns NE.out.2.1 hO, hg.out.gx (Nat.le_refl _) h5⟩
          clear L hle hU hV hO hg hrow
          go_wp2_with (go_at_call 228; (with_reducible refine LY.out.mono ?_); rintro e w4 ⟨zs, rfl, hzs, hU4, hV4, hO4, hg4⟩; have hcO := owns_cell hO4 k (by omega); have hfO := hO4.frozenAt k)
          go_roundw
          case rel => exact ⟨k, zs, outs.set k c, by omega, by go_num, Gx.owns (Gx.setCell (Gx.refl w2.heap.size w4) rfl _) NE.out.2.2.1 hU4, Gx.owns (Gx.setCell (Gx.refl w2.heap.size w4) rfl _) NE.out.2.2.2.1 hV4, owns_set hO4 k c, hA.out.next (by omega) HV.out.2.2.2.1 hzs.out.1 hzs.out.2.1 hc hzs.out.2.2 hTc.out, hg4.out.setCell NE.out.2.2.2.2 _⟩
          case measure => simp only [intOf]; omega
        · have hlt := no_less hle HV.out.2.2.2.1
          rw [leB_f hle] at L
          have c1' : 1 ≤ c := Nat.lt_of_le_of_lt (Nat.zero_le _) hlt
          have LT : Hid (nv 4294967296 us / 4294967296 ^ k / nv 4294967296 vs ≤ c - 1) := Nat.le_pred_of_lt hlt
          have LN : Hid (Calls Tryz.prog 228 #[.slice (some ⟨w.heap.size, 0, none⟩) (n + 1) (n + 1), .int .i64 (k : Int), .slice (some ⟨w1.heap.size, 0, none⟩) (m + 1) (m + 1), .int .u64 (c : Int)] wr fun e w' => e = .returned (.bool false) ∧ w'.ownsRow w.heap.size 91 1 (.slice (some ⟨w.heap.size, 0, none⟩) (n + 1) (n + 1)) (n + 1) (u64s us) ∧ w'.ownsRow w1.heap.size 91 1 (.slice (some ⟨w1.heap.size, 0, none⟩) (m + 1) (m + 1)) (m + 1) (u64s vs) ∧ w'.ownsRow w2.heap.size 91 1 (.slice (some ⟨w2.heap.size, 0, none⟩) (n - m) (n - m)) (n - m) (u64s outs) ∧ Hid (Gr w w')) := L.mono fun e w' ⟨zs, h1, h2, h3, h4, h5, h6, h7⟩ => ⟨h1, by have := h7 hle; subst this; exact h4, h5.owns NE.out.1 hV, h5.owns NE.out.2.1 hO, hg.out.gx (Nat.le_refl _) h5⟩
          clear L hle hU hV hO hg hrow hlt
          go_wp2_with (go_at_call 228; (with_reducible refine LN.out.mono ?_); rintro e w4 ⟨rfl, hU4, hV4, hO4, hg4⟩)
          go_roundw
          case rel => exact ⟨c - 1, by rw [show ((c - 1 : Nat) : Int) = (c : Int) - 1 by omega], by omega, LT.out, hU4, hV4, hO4, hg4.out⟩
          case measure => simp only [intOf]; omega
end Go.Proofs.YtlhpkflknfmjcaaGreatDoor
namespace Go.Proofs.YtlhpkflknfmjcaaGreatDoor
open Go.RowKit
set_option linter.unusedVariables false

set_option maxRecDepth 10000 in
set_option maxHeartbeats 800000 in
theorem shortB (ad : Option Addr) (m cap p : Nat) (ds : List Nat) (w : World) (rd : Row w ad m cap ds) (hd : ∀ d ∈ ds, d < 4294967296) (hm : m ≤ 1099511627776) (hp : 0 < p) (hp1 : p ≤ 4294967295) :
    Calls Tryz.prog 183 #[.slice ad m cap, .int .u64 (p : Int)] w fun e w' => ∃ ad' n' cap' r, e = .returned (.tuple #[.slice ad' n' cap', .int .u64 (r : Nat)]) ∧ n' ≤ m ∧ Lim w' ad' n' cap' 4294967296 (nv 4294967296 ds / p) ∧ r = nv 4294967296 ds % p ∧ Gr w w' := by
  have RD : Hid (Row w ad m cap ds) := rd
  have HD : Hid (∀ d ∈ ds, d < 4294967296) := hd
  have hlen := rd.len
  have LEN : Hid (ds.length = m) := hlen
  clear rd hd hlen
  have hp0 : (((p : Nat) : Int) == 0) = false := by simp; omega
  go_enter Tryz.func183, Tryz.ntmps183
  go_wp2_with (at_make; refine wpList_made rfl _ _ rfl m _ rfl rfl ?_ ?_ ?_; rotate_right; intro w2 hown0 hg2)
  case' refine_1 => rfl
  case' refine_2 => omega
  have G2 : Hid (Gr w w2) := hg2
  clear hg2
  go_loopw [7, 8] (fun cr i wr => ∃ (k c : Nat) (zs : List Nat), k ≤ m ∧ i = .int .i64 ((k : Int) - 1) ∧ cr = .int .u64 (c : Int) ∧ c < p ∧ wr.ownsRow w.heap.size 91 1 (.slice (some ⟨w.heap.size, 0, none⟩) m m) m (u64s zs) ∧ Hid (ShAt ds zs k p c m) ∧ Hid (Gr w wr)) (fun _ i _ => (intOf i + 1).toNat)
  case atStart => exact ⟨m, 0, List.replicate m 0, by omega, rfl, rfl, hp, hown0, ShAt.start hp LEN.out, G2⟩
  case round =>
    obtain ⟨k, c, zs, hk, rfl, rfl, hc, hown, hA, hg⟩ := hrel
    by_cases hk0 : k = 0
    · subst hk0
      have hval := hA.out.val
      have hrl := hA.out.rlt
      rw [List.drop_zero, List.drop_zero] at hval
      obtain ⟨ad', cap', hEq, hrow⟩ := Row.of_owns hown
      simp only [Value.slice.injEq, true_and] at hEq
      obtain ⟨rfl, rfl⟩ := hEq
      have e1 : nv 4294967296 ds / p = nv 4294967296 zs := by
        rw [hval, Nat.mul_add_div hp, Nat.div_eq_of_lt hrl, Nat.add_zero]
      have e2 : nv 4294967296 ds % p = c := by
        rw [hval, Nat.mul_add_mod, Nat.mod_eq_of_lt hrl]
      have HT : Hid (Calls Tryz.prog 154 #[.slice (some ⟨w.heap.size, 0, none⟩) m m] wr fun e w' => ∃ j, e = .returned (.slice (some ⟨w.heap.size, 0, none⟩) j m) ∧ j ≤ m ∧ Lim wr (some ⟨w.heap.size, 0, none⟩) j m 4294967296 (nv 4294967296 ds / p) ∧ w' = wr) := by
        refine (low83 _ _ _ zs wr hrow).mono ?_
        rintro e w' ⟨j, rfl, hj, hz, ht, rfl⟩
        refine ⟨j, rfl, hj, ?_, rfl⟩
        have := trim_out hrow hA.out.lt hj hz ht
        rw [e1]
        exact this
      have E2 : Hid (c = nv 4294967296 ds % p) := e2.symm
      clear hrow hown e1 e2 hval
      go_wp2_with (go_at_call 154; with_reducible refine HT.out.mono ?_; rintro e w' ⟨j, rfl, hj, hl, rfl⟩)
      refine bodyPost_ret (v := .tuple #[.slice (some ⟨w.heap.size, 0, none⟩) j m, .int .u64 (c : Int)]) (by simp [results, Tryz.results183, go_sem]) rfl ⟨_, _, _, c, rfl, hj, hl, E2.out, hg.out⟩
    · obtain ⟨k, rfl⟩ : ∃ k', k = k' + 1 := ⟨k - 1, by omega⟩
      obtain ⟨p1, o1, rfl, hb1, hc1⟩ := RD.out.lt (by omega)
      have hcell1 := hc1 wr hg.out k (by omega)
      have hcell3 := owns_cell hown k (by omega)
      have hfz := hown.frozenAt k
      obtain ⟨x, hx⟩ : ∃ x, x = ds.getD k 0 := ⟨_, rfl⟩
      have bx : x < 4294967296 := hx ▸ getD_lt (by omega) HD.out k
      rw [← hx] at hcell1
      obtain ⟨s, hs⟩ : ∃ s, s = c * 4294967296 + x := ⟨_, rfl⟩
      have bs : s < 18446744073709551616 := by
        have : (c + 1) * 4294967296 ≤ 4294967295 * 4294967296 := Nat.mul_le_mul_right _ (by omega)
        omega
      have NX : Hid (ShAt ds (zs.set k (s / p)) k p (s % p) m) := hA.out.next LEN.out hk hx bx hs
      have E1 : Hid ((c : Int) * 4294967296 + (x : Int) = (s : Int)) := by show _ = _; omega
      have E2 : Hid ((s : Int) / (p : Int) = ((s / p : Nat) : Int)) := by show _ = _; rw [Int.natCast_ediv]
      have E3 : Hid ((s : Int) % (p : Int) = ((s % p : Nat) : Int)) := by show _ = _; rw [Int.natCast_emod]
      have i1 : (k : Int) < (m : Int) := by omega
      have bq : s % p < p := Nat.mod_lt _ hp
      clear hc1 hx
      go_wp2_with (first | (simp only [E1.out]) | (simp only [E2.out]) | (simp only [E3.out]))
      go_roundw
      case rel => exact ⟨k, s % p, _, by omega, by go_num, rfl, bq, owns_set hown k (s / p), NX.out, hg.out.setCell (Nat.le_refl _) _⟩
      case measure => simp only [intOf]; omega

theorem natOfR (x : Nat) (w : World) (hx : x < 18446744073709551616) :
    Calls Tryz.prog 64 #[.int .u64 (x : Int)] w fun e w' => ∃ ad n cap, e = .returned (.slice ad n cap) ∧ Lim w' ad n cap 18446744073709551616 x ∧ Gr w w' := by
  have hrow : Row (w.alloc (.cells #[.int .u64 (x : Int)] 91)) (some ⟨w.heap.size, 0, none⟩) 1 1 [x] := by
    refine ⟨rfl, Nat.le_refl _, by omega, (fun h => by cases h), fun _ => ⟨w.heap.size, 0, rfl, by simp, fun j hj => ?_⟩⟩
    obtain rfl : j = 0 := by omega
    simp
  have T := trim77 _ 1 1 [x] _ hrow (by omega) (by simpa using hx)
  have e : nv 18446744073709551616 [x] = x := by simp [nv]
  rw [e] at T
  have H : Hid (Calls Tryz.prog 103 #[.slice (some ⟨w.heap.size, 0, none⟩) 1 1] (w.alloc (.cells #[.int .u64 (x : Int)] 91)) fun e w' => ∃ ad' n' cap', e = .returned (.slice ad' n' cap') ∧ Lim w' ad' n' cap' 18446744073709551616 x ∧ Gr (w.alloc (.cells #[.int .u64 (x : Int)] 91)) w') := T
  have G : Gr w (w.alloc (.cells #[.int .u64 (x : Int)] 91)) := (Gr.refl w).alloc _
  clear hrow T e
  go_enter Tryz.func64, Tryz.ntmps64
  go_wp2_with (go_at_call 103; (with_reducible refine H.out.mono ?_); rintro e w1 ⟨a1, n1, k1, rfl, hl, g⟩)
  go_ret
  exact ⟨_, _, _, rfl, hl, G.trans g⟩
theorem Dg.top {B n : Nat} {xs : List Nat} (h : Dg B n xs) {k : Nat} (hk : xs.length = k + 1) : 0 < xs.getD k 0 := by
  have h3 := h.2.2
  refine Nat.pos_of_ne_zero fun h0 => ?_
  have hB : 0 < B := Nat.lt_of_le_of_lt (Nat.zero_le _) (h.2.1 _ (getD_mem (show k < xs.length by omega)))
  have hz := h.lower hk
  have e := nv_take_succ B xs k
  rw [nv_take_all _ _ _ (by omega), h0, Nat.mul_zero, Nat.add_zero, h.1] at e
  have hl := nv_lt B (xs.take k) (fun z hz => h.2.1 z (List.mem_of_mem_take hz))
  rw [List.length_take, Nat.min_eq_left (by omega)] at hl
  omega
set_option maxRecDepth 10000 in
set_option maxHeartbeats 4000000 in
theorem natDivR (ad1 ad2 : Option Addr) (n1 n2 c1 c2 x y : Nat) (w : World) (hx : Lim w ad1 n1 c1 18446744073709551616 x) (hy : Lim w ad2 n2 c2 18446744073709551616 y) (bx : bl x ≤ 68719476736) (by' : bl y ≤ 68719476736) (y0 : 0 < y) :
    Calls Tryz.prog 225 #[.slice ad1 n1 c1, .slice ad2 n2 c2] w fun e w' => ∃ a' n' c' a'' n'' c'', e = .returned (.tuple #[.slice a' n' c', .slice a'' n'' c'']) ∧ Lim w' a' n' c' 18446744073709551616 (x / y) ∧ Lim w' a'' n'' c'' 18446744073709551616 (x % y) ∧ Gr w w' := by
  have H1 : Hid (Calls Tryz.prog 139 #[.slice ad1 n1 c1] w fun e w' => ∃ ad' n' cap', e = .returned (.slice ad' n' cap') ∧ n' ≤ 2147483650 ∧ Lim w' ad' n' cap' 4294967296 x ∧ Gr w w') := halvesL ad1 n1 c1 x w hx bx
  have H2 : Hid (∀ w1, Gr w w1 → Calls Tryz.prog 139 #[.slice ad2 n2 c2] w1 fun e w' => ∃ ad' n' cap', e = .returned (.slice ad' n' cap') ∧ n' ≤ 2147483650 ∧ Lim w' ad' n' cap' 4294967296 y ∧ Gr w1 w') := fun w1 g => halvesL ad2 n2 c2 y w1 (hy.gr g) by'
  have H3 : Hid (∀ w1, Gr w w1 → Calls Tryz.prog 103 #[.slice ad1 n1 c1] w1 fun e w' => ∃ ad' n' cap', e = .returned (.slice ad' n' cap') ∧ Lim w' ad' n' cap' 18446744073709551616 x ∧ Gr w1 w') := fun w1 g => (trimL ad1 n1 c1 x w1 (hx.gr g) bx).mono fun e w' ⟨a, n, c, h1, _, h2, h3⟩ => ⟨a, n, c, h1, h2, h3⟩
  have HLM : Hid (∀ ad n cap v w1, Lim w1 ad n cap 4294967296 v → n ≤ 2147483652 → Calls Tryz.prog 137 #[.slice ad n cap] w1 fun e w' => ∃ ad' n' cap', e = .returned (.slice ad' n' cap') ∧ Lim w' ad' n' cap' 18446744073709551616 v ∧ Gr w1 w') := fun ad n cap v w1 h hn => limbsL ad n cap v w1 h (by omega)
  have HOF : Hid (∀ (r : Nat) w1, r < 18446744073709551616 → Calls Tryz.prog 64 #[.int .u64 (r : Int)] w1 fun e w' => ∃ ad n cap, e = .returned (.slice ad n cap) ∧ Lim w' ad n cap 18446744073709551616 r ∧ Gr w1 w') := fun r w1 h => natOfR r w1 h
  clear hx hy bx by'
  have tok : True := trivial
  have tok2 : True := trivial
  go_enter Tryz.func225, Tryz.ntmps225
  go_upto_region 2 with (first | (go_at_call 139; have _t := tok; (with_reducible refine H1.out.mono ?_); rintro e w1 ⟨a1, m1, k1, rfl, hm1, hl1, g1⟩; clear tok) | (go_at_call 139; (with_reducible refine (H2.out _ g1).mono ?_); rintro e w2 ⟨a2, m2, k2, rfl, hm2, hl2, g2⟩))
  obtain ⟨xs, rx, dx⟩ := hl1
  obtain ⟨ys, ry, dy⟩ := hl2
  have rx := rx.gr g2
  have GG := g1.trans g2
  have hm0 : m2 ≠ 0 := fun h => by
    have := (dy.zero_iff (by omega)).1 (by rw [ry.len]; exact h)
    omega
  by_cases c0 : m1 < m2
  · have hlt := dx.lt_of_len (by omega) dy (by rw [rx.len, ry.len]; exact c0)
    have e1 : Hid (x / y = 0 ∧ x % y = x) := ⟨Nat.div_eq_of_lt hlt, Nat.mod_eq_of_lt hlt⟩
    have i1 : (m1 : Int) < (m2 : Int) := by omega
    have GH : Hid (Gr w w2) := GG
    clear rx ry dx dy g1 g2 hlt GG
    go_wp2_with (go_at_call 103; (with_reducible refine (H3.out _ GH.out).mono ?_); rintro e w3 ⟨a3, m3, k3, rfl, hl3, g3⟩)
    go_ret2
    rw [e1.out.1, e1.out.2]
    exact ⟨_, _, _, _, _, _, rfl, ⟨[], Row.empty (by omega) (fun _ => rfl), Dg.nil⟩, hl3, GH.out.trans g3⟩
  · have i1 : ¬ (m1 : Int) < (m2 : Int) := by omega
    by_cases c1' : m2 = 1
    · subst c1'
      obtain ⟨p2, o2, rfl, hb2, hc2⟩ := ry.cells (by omega)
      have hcell := hc2 0 (by omega)
      have ey : y = ys.getD 0 0 := by
        have e := nv_take_succ 4294967296 ys 0
        rw [nv_take_all _ _ _ (by rw [ry.len]; omega), dy.1] at e
        simpa [nv] using e
      have by0 : y < 4294967296 := ey ▸ getD_lt (by omega) dy.2.1 0
      rw [← ey, Nat.add_zero] at hcell
      have HS : Hid (Calls Tryz.prog 183 #[.slice a1 m1 k1, .int .u64 (y : Int)] w2 fun e w' => ∃ ad' n' cap' r, e = .returned (.tuple #[.slice ad' n' cap', .int .u64 ((r : Nat) : Int)]) ∧ n' ≤ m1 ∧ Hid (Lim w' ad' n' cap' 4294967296 (x / y)) ∧ Hid (r = x % y) ∧ Gr w2 w') := (shortB a1 m1 k1 y xs w2 rx dx.2.1 (by omega) y0 (by omega)).mono fun e w' ⟨a, n, c, r, h1, h2, h3, h4, h5⟩ => by
        rw [dx.1] at h3 h4
        exact ⟨a, n, c, r, h1, h2, h3, h4, h5⟩
      have HR : Hid (x % y < 18446744073709551616) := Nat.lt_of_lt_of_le (Nat.mod_lt _ y0) (by omega)
      have GH : Hid (Gr w w2) := GG
      clear rx ry dx dy g1 g2 GG hc2 ey
      go_wp2_with (first | (go_at_call 183; (with_reducible refine HS.out.mono ?_); rintro e w3 ⟨a3, m3, k3, r3, rfl, hm3, hl3, hr3, g3⟩) | (go_at_call 137; (with_reducible refine (HLM.out _ _ _ _ _ hl3.out (by omega)).mono ?_); rintro e w4 ⟨a4, m4, k4, rfl, hl4, g4⟩) | (go_at_call 64; (with_reducible refine (HOF.out _ _ (by rw [hr3.out]; exact HR.out)).mono ?_); rintro e w5 ⟨a5, m5, k5, rfl, hl5, g5⟩))
      go_ret2
      rw [hr3.out] at hl5
      exact ⟨_, _, _, _, _, _, rfl, hl4.gr g5, hl5, ((GH.out.trans g3).trans g4).trans g5⟩
    · obtain ⟨m, rfl⟩ : ∃ m, m2 = m + 1 := ⟨m2 - 1, by omega⟩
      have HLG : Hid (Calls Tryz.prog 226 #[.slice a1 m1 k1, .slice a2 (m + 1) k2] w2 fun e w' => ∃ a' n' c' a'' n'' c'', e = .returned (.tuple #[.slice a' n' c', .slice a'' n'' c'']) ∧ n' ≤ m1 ∧ n'' ≤ m1 + 1 ∧ Hid (Lim w' a' n' c' 4294967296 (x / y)) ∧ Hid (Lim w' a'' n'' c'' 4294967296 (x % y)) ∧ Gr w2 w') := by
        have := longR a1 a2 m1 m k1 k2 xs ys w2 rx ry dx.2.1 dy.2.1 (by omega) (by omega) (dy.top ry.len)
        rw [dx.1, dy.1] at this
        exact this
      have i2 : (((m : Int) + 1) == 1) = false := by simp; omega
      have GH : Hid (Gr w w2) := GG
      clear rx ry dx dy g1 g2 GG
      go_wp2_with (first | (go_at_call 226; (with_reducible refine HLG.out.mono ?_); rintro e w3 ⟨a3, m3, k3, a6, m6, k6, rfl, hm3, hm6, hl3, hl6, g3⟩) | (go_at_call 137; have _t := tok2; (with_reducible refine (HLM.out _ _ _ _ _ hl3.out (by omega)).mono ?_); rintro e w4 ⟨a4, m4, k4, rfl, hl4, g4⟩; clear tok2) | (go_at_call 137; (with_reducible refine (HLM.out _ _ _ _ _ (hl6.out.gr g4) (by omega)).mono ?_); rintro e w5 ⟨a5, m5, k5, rfl, hl5, g5⟩))
      go_ret2
      exact ⟨_, _, _, _, _, _, rfl, hl4.gr g5, hl5, ((GH.out.trans g3).trans g4).trans g5⟩
end Go.Proofs.YtlhpkflknfmjcaaGreatDoor
