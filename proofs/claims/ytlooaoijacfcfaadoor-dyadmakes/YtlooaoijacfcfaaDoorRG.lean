import Derived.Test.YtlooaoijacfcfaaDoorRa
namespace Go.Proofs.YtlooaoijacfcfaaDoor
open Go.RowKit
set_option linter.unusedVariables false

theorem Dg.lt {B n : Nat} {xs : List Nat} (h : Dg B n xs) : ∀ x ∈ xs, x < B := h.2.1

theorem lim_len {w : World} {ad : Option Addr} {n cap x b : Nat} (h : Lim w ad n cap 18446744073709551616 x) (hb : bl x ≤ b) : 64 * n ≤ b + 63 := by
  obtain ⟨xs, h1, h2⟩ := h
  have := len_bl h2
  rw [h1.len] at this
  omega
/-- limbs as digits of 32 bits -/
theorem halvesL (ad : Option Addr) (n cap x : Nat) (w : World) (h : Lim w ad n cap 18446744073709551616 x) (hb : bl x ≤ 68719476736) :
    Calls Tryd.prog 63 #[.slice ad n cap] w fun e w' => ∃ ad' n' cap', e = .returned (.slice ad' n' cap') ∧ n' ≤ 2147483650 ∧ Lim w' ad' n' cap' 4294967296 x ∧ Gr w w' := by
  have hl := lim_len h hb
  obtain ⟨xs, h1, h2⟩ := h
  refine (halves74 ad n cap xs w h1 (by omega) h2.2.1).mono ?_
  rintro e w' ⟨ad', n', cap', rfl, h3, h4, h5⟩
  rw [h2.1] at h4
  exact ⟨_, _, _, rfl, by omega, h4, h5⟩

theorem two_pow_le {k : Nat} (h : k < 32) : 2 ^ k ≤ 2147483648 := by
  have : 2 ^ k ≤ 2 ^ 31 := Nat.pow_le_pow_right (by omega) (by omega)
  omega

theorem limbsL (ad : Option Addr) (n cap x : Nat) (w : World) (h : Lim w ad n cap 4294967296 x) (hn : n ≤ 1099511627776) :
    Calls Tryd.prog 65 #[.slice ad n cap] w fun e w' => ∃ ad' n' cap', e = .returned (.slice ad' n' cap') ∧ Lim w' ad' n' cap' 18446744073709551616 x ∧ Gr w w' := by
  obtain ⟨xs, h1, h2⟩ := h
  have := limbs75 ad n cap xs w h1 hn h2.lt
  rw [h2.1] at this
  exact this

theorem trimL (ad : Option Addr) (n cap x : Nat) (w : World) (h : Lim w ad n cap 18446744073709551616 x) (hb : bl x ≤ 68719476736) :
    Calls Tryd.prog 52 #[.slice ad n cap] w fun e w' => ∃ ad' n' cap', e = .returned (.slice ad' n' cap') ∧ n' ≤ 1073741825 ∧ Lim w' ad' n' cap' 18446744073709551616 x ∧ Gr w w' := by
  have hl := lim_len h hb
  obtain ⟨xs, h1, h2⟩ := h
  refine (trim77 ad n cap xs w h1 (by omega) h2.2.1).mono ?_
  rintro e w' ⟨ad', n', cap', rfl, h4, h5⟩
  rw [h2.1] at h4
  have hl' := lim_len h4 hb
  exact ⟨_, _, _, rfl, by omega, h4, h5⟩


theorem drop_at {xs : List Nat} {k : Nat} (h : k < xs.length) : xs.drop k = xs.getD k 0 :: xs.drop (k + 1) := by
  rw [List.drop_eq_getElem_cons h, List.getD_eq_getElem?_getD, List.getElem?_eq_getElem h]; rfl
/-- what short's row holds, from the top down to k -/
structure ShAt (ds zs : List Nat) (k p r m : Nat) : Prop where
  len : zs.length = m
  lt : ∀ z ∈ zs, z < 4294967296
  val : nv 4294967296 (ds.drop k) = p * nv 4294967296 (zs.drop k) + r
  rlt : r < p
theorem ShAt.start {ds : List Nat} {p m : Nat} (hp : 0 < p) (hl : ds.length = m) : ShAt ds (List.replicate m 0) m p 0 m :=
  ⟨by simp, (fun z hz => by rw [List.mem_replicate] at hz; omega), by rw [List.drop_of_length_le (by omega), List.drop_of_length_le (by simp)]; simp [nv], hp⟩
theorem ShAt.next {ds zs : List Nat} {k p r m x s : Nat} (h : ShAt ds zs (k + 1) p r m) (hl : ds.length = m) (hk : k + 1 ≤ m) (hx : x = ds.getD k 0) (hx1 : x < 4294967296) (hs : s = r * 4294967296 + x) : ShAt ds (zs.set k (s / p)) k p (s % p) m := by
  have hp : 0 < p := Nat.lt_of_le_of_lt (Nat.zero_le _) h.rlt
  have hlz := h.len
  have hlt : s / p < 4294967296 := by
    refine Nat.div_lt_of_lt_mul ?_
    have := Nat.mul_le_mul_right 4294967296 (show r + 1 ≤ p from h.rlt)
    rw [Nat.add_mul, Nat.one_mul] at this
    omega
  refine ⟨by rw [List.length_set]; exact h.len, set_lt h.lt hlt, ?_, Nat.mod_lt _ hp⟩
  rw [drop_at (xs := ds) (by omega), drop_at (xs := zs.set k (s / p)) (by rw [List.length_set]; omega), getD_set _ _ _ _ (by omega), if_pos rfl, List.drop_set_of_lt (by omega)]
  simp only [nv]
  rw [h.val, ← hx]
  have e := Nat.div_add_mod s p
  generalize s / p = q at *
  generalize s % p = t at *
  generalize nv 4294967296 (zs.drop (k + 1)) = N at *
  rw [Nat.mul_add, Nat.mul_add, ← Nat.mul_assoc, ← Nat.mul_assoc, Nat.mul_comm 4294967296 p]
  omega
set_option maxRecDepth 10000 in
set_option maxHeartbeats 800000 in
theorem short101 (ad : Option Addr) (m cap p : Nat) (ds : List Nat) (w : World) (rd : Row w ad m cap ds) (hd : ∀ d ∈ ds, d < 4294967296) (hm : m ≤ 1099511627776) (hp : 0 < p) (hp1 : p ≤ 2147483648) :
    Calls Tryd.prog 64 #[.slice ad m cap, .int .u64 (p : Int)] w fun e w' => ∃ ad' n' cap' r, e = .returned (.tuple #[.slice ad' n' cap', .int .u64 (r : Nat)]) ∧ n' ≤ m ∧ Lim w' ad' n' cap' 4294967296 (nv 4294967296 ds / p) ∧ r = nv 4294967296 ds % p ∧ Gr w w' := by
  have RD : Hid (Row w ad m cap ds) := rd
  have HD : Hid (∀ d ∈ ds, d < 4294967296) := hd
  have hlen := rd.len
  have LEN : Hid (ds.length = m) := hlen
  clear rd hd hlen
  have hp0 : (((p : Nat) : Int) == 0) = false := by simp; omega
  go_enter Tryd.func64, Tryd.ntmps64
  go_wp2_with (at_make; refine wpList_made rfl _ _ rfl m _ rfl rfl ?_ ?_ ?_; rotate_right; intro w2 hown0 hg2)
  case' refine_1 => rfl
  case' refine_2 => omega
  have G2 : Hid (Gr w w2) := hg2
  clear hg2
  go_loopw [7, 8] (fun cr i wr => ∃ (k c : Nat) (zs : List Nat), k ≤ m ∧ i = .int .i64 ((k : Int) - 1) ∧ cr = .int .u64 (c : Int) ∧ c < p ∧ wr.ownsRow w.heap.size 39 1 (.slice (some ⟨w.heap.size, 0, none⟩) m m) m (u64s zs) ∧ Hid (ShAt ds zs k p c m) ∧ Hid (Gr w wr)) (fun _ i _ => (intOf i + 1).toNat)
  case atStart => exact ⟨m, 0, List.replicate m 0, by omega, rfl, rfl, hp, hown0, ShAt.start hp LEN.out, G2⟩
  case round =>
    obtain ⟨k, c, zs, hk, rfl, rfl, hc, hown, hA, hg⟩ := hrel
    by_cases hk0 : k = 0
    · subst hk0
      have hval := hA.out.val
      have hrl := hA.out.rlt
      rw [List.drop_zero, List.drop_zero] at hval
      obtain ⟨ad', cap', hEq, hrow⟩ := Row.of_owns hown
      simp only [Value.slice.injEq, true_and] at hEq
      obtain ⟨rfl, rfl⟩ := hEq
      have e1 : nv 4294967296 ds / p = nv 4294967296 zs := by
        rw [hval, Nat.mul_add_div hp, Nat.div_eq_of_lt hrl, Nat.add_zero]
      have e2 : nv 4294967296 ds % p = c := by
        rw [hval, Nat.mul_add_mod, Nat.mod_eq_of_lt hrl]
      have HT : Hid (Calls Tryd.prog 75 #[.slice (some ⟨w.heap.size, 0, none⟩) m m] wr fun e w' => ∃ j, e = .returned (.slice (some ⟨w.heap.size, 0, none⟩) j m) ∧ j ≤ m ∧ Lim wr (some ⟨w.heap.size, 0, none⟩) j m 4294967296 (nv 4294967296 ds / p) ∧ w' = wr) := by
        refine (low83 _ _ _ zs wr hrow).mono ?_
        rintro e w' ⟨j, rfl, hj, hz, ht, rfl⟩
        refine ⟨j, rfl, hj, ?_, rfl⟩
        have := trim_out hrow hA.out.lt hj hz ht
        rw [e1]
        exact this
      have E2 : Hid (c = nv 4294967296 ds % p) := e2.symm
      clear hrow hown e1 e2 hval
      go_wp2_with (go_at_call 75; with_reducible refine HT.out.mono ?_; rintro e w' ⟨j, rfl, hj, hl, rfl⟩)
      refine bodyPost_ret (v := .tuple #[.slice (some ⟨w.heap.size, 0, none⟩) j m, .int .u64 (c : Int)]) (by simp [results, Tryd.results64, go_sem]) rfl ⟨_, _, _, c, rfl, hj, hl, E2.out, hg.out⟩
    · obtain ⟨k, rfl⟩ : ∃ k', k = k' + 1 := ⟨k - 1, by omega⟩
      obtain ⟨p1, o1, rfl, hb1, hc1⟩ := RD.out.lt (by omega)
      have hcell1 := hc1 wr hg.out k (by omega)
      have hcell3 := owns_cell hown k (by omega)
      have hfz := hown.frozenAt k
      obtain ⟨x, hx⟩ : ∃ x, x = ds.getD k 0 := ⟨_, rfl⟩
      have bx : x < 4294967296 := hx ▸ getD_lt (by omega) HD.out k
      rw [← hx] at hcell1
      obtain ⟨s, hs⟩ : ∃ s, s = c * 4294967296 + x := ⟨_, rfl⟩
      have bs : s < 18446744073709551616 := by
        have : (c + 1) * 4294967296 ≤ 2147483648 * 4294967296 := Nat.mul_le_mul_right _ (by omega)
        omega
      have NX : Hid (ShAt ds (zs.set k (s / p)) k p (s % p) m) := hA.out.next LEN.out hk hx bx hs
      have E1 : Hid ((c : Int) * 4294967296 + (x : Int) = (s : Int)) := by show _ = _; omega
      have E2 : Hid ((s : Int) / (p : Int) = ((s / p : Nat) : Int)) := by show _ = _; rw [Int.natCast_ediv]
      have E3 : Hid ((s : Int) % (p : Int) = ((s % p : Nat) : Int)) := by show _ = _; rw [Int.natCast_emod]
      have i1 : (k : Int) < (m : Int) := by omega
      have bq : s % p < p := Nat.mod_lt _ hp
      clear hc1 hx
      go_wp2_with (first | (simp only [E1.out]) | (simp only [E2.out]) | (simp only [E3.out]))
      go_roundw
      case rel => exact ⟨k, s % p, _, by omega, by go_num, rfl, bq, owns_set hown k (s / p), NX.out, hg.out.setCell (Nat.le_refl _) _⟩
      case measure => simp only [intOf]; omega
end Go.Proofs.YtlooaoijacfcfaaDoor
