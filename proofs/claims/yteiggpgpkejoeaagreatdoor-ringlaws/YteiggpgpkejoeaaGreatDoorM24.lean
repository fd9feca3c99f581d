import Derived.Test.YteiggpgpkejoeaaGreatDoorM23
namespace Go.Proofs.YteiggpgpkejoeaaGreatDoor
open Go.RowKit
set_option linter.unusedVariables false

set_option maxHeartbeats 1600000 in
/-- the root of nought -/
theorem rootOf0 (cap : Nat) (ad : Option Addr) (w : World) :
    Calls Tryz.prog 176 #[.slice ad 0 cap] w fun e w' => e = .returned (.tuple #[.slice none 0 0, .bool true]) ∧ Gr w w' := by
  go_enter Tryz.func176, Tryz.ntmps176
  go_wp2
  refine bodyPost_ret (v := .tuple #[.slice none 0 0, .bool true]) (by simp [results, Tryz.results176, go_sem]) rfl ⟨rfl, ?_⟩
  first | exact Gr.refl _ | exact (Gr.refl _).drew | exact (Gr.refl _).drewN _
set_option maxHeartbeats 3200000 in
theorem rootOfN (ad : Option Addr) (n cap M : Nat) (w : World) (hx : Lim w ad (n + 1) cap 18446744073709551616 M) (bn : n + 1 ≤ 1073741824) :
    Calls Tryz.prog 176 #[.slice ad (n + 1) cap] w fun e w' => ∃ ad' n' cap' R, e = .returned (.tuple #[.slice ad' n' cap', .bool (decide (R * R = M))]) ∧ n' ≤ n + 1 ∧ Lim w' ad' n' cap' 18446744073709551616 R ∧ R * R ≤ M ∧ M < (R + 1) * (R + 1) ∧ Gr w w' := by
  have M0 : 0 < M := Nat.pos_of_ne_zero fun h => by
    subst h
    have := lim_zero hx
    omega
  have HL : Hid (Lim w ad (n + 1) cap 18446744073709551616 M) := hx
  have hbM : bl M ≤ 64 * (n + 1) := by
    obtain ⟨xs, r, d⟩ := hx
    have := bl_len d
    rwa [r.len] at this
  have hb1 := bl_pos' M0
  have hlt := bl_lt M
  have hge := bl_le M0
  have H40 : Hid (Calls Tryz.prog 159 #[.slice ad (n + 1) cap] w fun e w' => e = .returned (.int .i64 (bl M : Int)) ∧ Gr w w') := bitLength40 ad (n + 1) cap M w hx M0 (by omega)
  clear hx
  generalize bl M = b at *
  obtain ⟨half, hhalf⟩ : ∃ half, half = (b - 1) / 2 := ⟨_, rfl⟩
  have E1 : ((b : Int) - 1) / 2 = (half : Int) := by omega
  have E2 : ((b : Int) - 1).tdiv 2 = (half : Int) := by rw [Int.tdiv_eq_ediv_of_nonneg (by omega)]; exact E1
  have hM1 : 2 ^ (2 * half) ≤ M := by
    have : 2 ^ (2 * half + 1) ≤ 2 ^ b := Nat.pow_le_pow_right (by omega) (by omega)
    rw [Nat.pow_succ] at this
    omega
  have hM2 : M < 2 ^ (2 * half + 2) := Nat.lt_of_lt_of_le hlt (Nat.pow_le_pow_right (by omega) (by omega))
  have hh : half ≤ 34359738368 := by omega
  have HM1 : Hid (2 ^ (2 * half) ≤ M) := hM1
  have HM2 : Hid (M < 2 ^ (2 * half + 2)) := hM2
  have H62 : Hid (∀ w1, Calls Tryz.prog 185 #[.int .u64 (half : Int)] w1 fun e w' => e = .returned (.int .i64 (bl half : Int)) ∧ w' = w1) := fun w1 => by
    have := Tryz.bits_Len (half : Int) w1 (by omega) (by omega)
    rw [Int.toNat_natCast, bitLen_bl (by omega)] at this
    exact this
  have hblh : bl half ≤ 64 := bl64 (by omega)
  clear hlt hge hhalf hM1 hM2
  go_enter Tryz.func176, Tryz.ntmps176
  go_wp2_with (first | (go_at_call 159; (with_reducible refine H40.out.mono ?_); rintro r w1 ⟨rfl, g1⟩) | (go_at_call 185; (with_reducible refine (H62.out _).mono ?_); rintro r w2 ⟨rfl, rfl⟩))
  clear E1 E2 H40 H62
  go_loopw [5, 6, 7] (fun rt hv i wr => ∃ (a5 : Option Addr) (n5 c5 r k : Nat), rt = .slice a5 n5 c5 ∧ hv = .int .i64 ((half / 2 ^ k : Nat) : Int) ∧ i = .int .i64 ((k : Int) - 1) ∧ k ≤ bl half ∧ n5 ≤ n + 1 ∧ Hid (Lim wr a5 n5 c5 18446744073709551616 r) ∧ Hid (RtAt M half (half / 2 ^ k) r) ∧ Hid (Gr w wr)) (fun _ _ i _ => (intOf i + 1).toNat)
  case atStart => exact ⟨_, _, _, 1, bl half, rfl, (by rw [Nat.div_eq_of_lt (bl_lt half)]; rfl), by go_num, Nat.le_refl _, by omega, limb_alloc w1 1 (by omega) (by omega), (by rw [Nat.div_eq_of_lt (bl_lt half)]; exact RtAt.start M0 HM2.out), g1.alloc _⟩
  case round =>
    obtain ⟨a5, n5, c5, r, k, rfl, rfl, rfl, hk, hn5, hl5, hR, hg⟩ := hrel
    by_cases hpos : 0 < k
    · obtain ⟨k', rfl⟩ : ∃ k', k = k' + 1 := ⟨k - 1, by omega⟩
      obtain ⟨hv, hhv⟩ : ∃ hv, hv = half / 2 ^ (k' + 1) := ⟨_, rfl⟩
      obtain ⟨wt, hwt⟩ : ∃ wt, wt = half / 2 ^ k' := ⟨_, rfl⟩
      have hvw : hv = wt / 2 := by rw [hhv, hwt, Nat.div_div_eq_div_mul, Nat.pow_succ]
      have wt1 : 1 ≤ wt := by
        rw [hwt]
        refine (Nat.le_div_iff_mul_le (Nat.two_pow_pos k')).2 ?_
        rw [Nat.one_mul]
        have a1 : 0 < half := Nat.pos_of_ne_zero fun h => by rw [h, bl_zero] at hk; omega
        have a2 := bl_le a1
        have a3 : 2 ^ (k' + 1) ≤ 2 ^ bl half := Nat.pow_le_pow_right (by omega) hk
        rw [Nat.pow_succ] at a3
        omega
      have wth : wt ≤ half := by rw [hwt]; exact Nat.div_le_self _ _
      have SHR : (half : Int) / 2 ^ k' = (wt : Int) := by rw [hwt, Int.natCast_ediv, Int.natCast_pow]; rfl
      obtain ⟨d, hd⟩ : ∃ d, d = wt - hv - 1 := ⟨_, rfl⟩
      obtain ⟨t, ht⟩ : ∃ t, t = 2 * half - hv - wt + 1 := ⟨_, rfl⟩
      have NX := (hhv ▸ hR.out : RtAt M half hv r).next HM1.out wth (d := d) (t := t) (by omega) (by omega) (by omega)
      have r0 : 0 < r := Nat.lt_of_lt_of_le (Nat.two_pow_pos _) (hR.out.low HM1.out)
      have NX' : Hid (RtAt M half wt (r * 2 ^ d + M / 2 ^ t / r)) := NX
      have et : 2 * (half : Int) - (hv : Int) - (wt : Int) + 1 = (t : Int) := by omega
      have ed : (wt : Int) - (hv : Int) - 1 = (d : Int) := by omega
      have td : t ≤ 68719476737 := by omega
      have dd : d ≤ 34359738368 := by omega
      have A37 : Hid (∀ w1, Gr w w1 → Calls Tryz.prog 179 #[.slice ad (n + 1) cap, .int .i64 (t : Int)] w1 fun r w' => ∃ ad' n' cap', r = .returned (.slice ad' n' cap') ∧ n' ≤ n + 1 ∧ Hid (Lim w' ad' n' cap' 18446744073709551616 (M / 2 ^ t)) ∧ Gr w1 w') := fun w1 g => shiftDown37 ad (n + 1) cap M t w1 (HL.out.gr g) (by omega) (by omega)
      have A63 : Hid (∀ a6 n6 c6 w1, Lim w1 a6 n6 c6 18446744073709551616 (M / 2 ^ t) → n6 ≤ n + 1 → Gr wr w1 → Calls Tryz.prog 186 #[.slice a6 n6 c6, .slice a5 n5 c5] w1 fun e w' => ∃ ad' n' cap', e = .returned (.slice ad' n' cap') ∧ n' ≤ n + 1 ∧ Hid (Lim w' ad' n' cap' 18446744073709551616 (M / 2 ^ t / r)) ∧ Gr w1 w') := fun a6 n6 c6 w1 h6 hn6 g => by
        refine (quotN a6 a5 n6 n5 c6 c5 (M / 2 ^ t) r w1 h6 (hl5.out.gr g) r0 (by omega) (by omega)).mono ?_
        rintro e w' ⟨a, m, c, rfl, h2, h3, h4⟩
        exact ⟨a, m, c, rfl, by omega, h3, h4⟩
      have A53 : Hid (∀ w1, Gr wr w1 → Calls Tryz.prog 180 #[.slice a5 n5 c5, .int .i64 (d : Int)] w1 fun e w' => ∃ ad' n' cap', e = .returned (.slice ad' n' cap') ∧ n' ≤ 2000000000 ∧ Hid (Lim w' ad' n' cap' 18446744073709551616 (r * 2 ^ d)) ∧ Gr w1 w') := fun w1 g => by
        refine (shiftUp53 a5 n5 c5 r d w1 (hl5.out.gr g) (by omega) (by omega)).mono ?_
        rintro e w' ⟨a, m, c, rfl, h2, h3, h4⟩
        exact ⟨a, m, c, rfl, by omega, h3, h4⟩
      have A38 : Hid (∀ a7 n7 c7 a8 n8 c8 w1, Lim w1 a7 n7 c7 18446744073709551616 (r * 2 ^ d) → n7 ≤ 2000000000 → Lim w1 a8 n8 c8 18446744073709551616 (M / 2 ^ t / r) → n8 ≤ n + 1 → Gr w w1 → Calls Tryz.prog 177 #[.slice a7 n7 c7, .slice a8 n8 c8] w1 fun e w' => ∃ ad' n' cap', e = .returned (.slice ad' n' cap') ∧ n' ≤ n + 1 ∧ Hid (Lim w' ad' n' cap' 18446744073709551616 (r * 2 ^ d + M / 2 ^ t / r)) ∧ Gr w1 w') := fun a7 n7 c7 a8 n8 c8 w1 h7 hn7 h8 hn8 g => by
        refine (plus38 a7 a8 n7 n8 c7 c8 _ _ w1 h7 h8 (by omega) (by omega)).mono ?_
        rintro e w' ⟨a, m, c, rfl, h2, h3, h4⟩
        exact ⟨a, m, c, rfl, lim_le h3 HL.out NX'.out.leM, h3, h4⟩
      have HW : Hid (wt = half / 2 ^ k') := hwt
      rw [← hhv]
      clear hl5 NX hR hhv hwt hvw hd ht r0
      go_wp2_with (first | (go_at_call 179; (with_reducible refine (A37.out _ hg.out).mono ?_); rintro e w3 ⟨a3, n3, c3, rfl, hn3, hl3, g3⟩) | (go_at_call 186; (with_reducible refine (A63.out _ _ _ _ hl3.out hn3 g3).mono ?_); rintro e w4 ⟨a4, n4, c4, rfl, hn4, hl4, g4⟩) | (go_at_call 180; (with_reducible refine (A53.out _ (g3.trans g4)).mono ?_); rintro e w6 ⟨a6, n6, c6, rfl, hn6, hl6, g6⟩; have hl4' := hl4.out.gr g6) | (go_at_call 177; (with_reducible refine (A38.out _ _ _ _ _ _ _ hl6.out hn6 hl4' hn4 (((hg.out.trans g3).trans g4).trans g6)).mono ?_); rintro e w7 ⟨a7, n7, c7, rfl, hn7, hl7, g7⟩))
      go_roundw
      case rel => exact ⟨_, _, _, _, k', rfl, (by rw [← HW.out]), by go_num, by omega, hn7, hl7, (by rw [← HW.out]; exact NX'.out), ((((hg.out.trans g3).trans g4).trans g6).trans g7)⟩
      case measure => simp only [intOf]; omega
    · obtain rfl : k = 0 := by omega
      have hb := hR.out.below
      have ha := hR.out.above
      rw [Nat.pow_zero, Nat.div_one, Nat.sub_self, Nat.mul_zero, Nat.pow_zero, Nat.mul_one] at hb ha
      have A32 : Hid (Calls Tryz.prog 187 #[.slice a5 n5 c5, .slice a5 n5 c5] wr fun e w' => ∃ ad' n' cap', e = .returned (.slice ad' n' cap') ∧ n' ≤ 2147483648 ∧ Hid (Lim w' ad' n' cap' 18446744073709551616 (r * r)) ∧ Gr wr w') := by
        refine (times32 a5 a5 n5 n5 c5 c5 r r wr hl5.out hl5.out (by omega) (by omega)).mono ?_
        rintro e w' ⟨a, m, c, rfl, h2, h3, h4⟩
        exact ⟨a, m, c, rfl, by omega, h3, h4⟩
      have A54 : Hid (∀ a6 n6 c6 w1, Lim w1 a6 n6 c6 18446744073709551616 (r * r) → n6 ≤ 2147483648 → Gr w w1 → Calls Tryz.prog 183 #[.slice a6 n6 c6, .slice ad (n + 1) cap] w1 fun e w' => e = .returned (.int .i64 (cmpI ((r * r : Nat) : Int) (M : Int))) ∧ Gr w1 w') := fun a6 n6 c6 w1 h6 hn6 g => compare54 a6 ad n6 (n + 1) c6 cap (r * r) M w1 h6 (HL.out.gr g) (by omega) (by omega)
      have A55 : Hid (∀ w1, 0 < r → Gr wr w1 → Calls Tryz.prog 184 #[.slice a5 n5 c5, .slice (some ⟨w1.heap.size, 0, none⟩) 1 1] (w1.alloc (.cells #[.int .u64 1] 40)) fun e w' => ∃ ad' n' cap', e = .returned (.slice ad' n' cap') ∧ n' ≤ n5 ∧ Hid (Lim w' ad' n' cap' 18446744073709551616 (r - 1)) ∧ Gr w1 w') := fun w1 r0 g => by
        have ga : Gr w1 (w1.alloc (.cells #[.int .u64 1] 40)) := (Gr.refl w1).alloc _
        refine (minus55 a5 _ n5 1 c5 1 r 1 _ ((hl5.out.gr g).gr ga) (limb_alloc w1 1 (by omega) (by omega)) (by omega) r0).mono ?_
        rintro e w' ⟨a, m, c, rfl, h2, h3, h4⟩
        exact ⟨a, m, c, rfl, h2, h3, ga.trans h4⟩
      rw [Nat.pow_zero, Nat.div_one]
      clear hR HM1 HM2
      rcases Nat.lt_trichotomy (r * r) M with hc | hc | hc
      · have cc : cmpI ((r * r : Nat) : Int) (M : Int) = -1 := cmpI_lt (by omega)
        rw [cc] at A54
        have dc : decide (r * r = M) = false := by simp; omega
        go_wp2_with (first | (go_at_call 187; (with_reducible refine A32.out.mono ?_); rintro e w3 ⟨a3, n3, c3, rfl, hn3, hl3, g3⟩) | (go_at_call 183; (with_reducible refine (A54.out _ _ _ _ hl3.out hn3 (hg.out.trans g3)).mono ?_); rintro e w4 ⟨rfl, g4⟩))
        refine bodyPost_ret (v := .tuple #[.slice a5 n5 c5, .bool false]) (by simp [results, Tryz.results176, go_sem]) rfl ⟨a5, n5, c5, r, by rw [dc], hn5, (hl5.out.gr g3).gr g4, by omega, ha, (hg.out.trans g3).trans g4⟩
      · have cc : cmpI ((r * r : Nat) : Int) (M : Int) = 0 := cmpI_eq (by omega)
        rw [cc] at A54
        have dc : decide (r * r = M) = true := by simp; omega
        have hc' : Hid (r * r ≤ M) := by show _ ≤ _; omega
        clear hc
        go_wp2_with (first | (go_at_call 187; (with_reducible refine A32.out.mono ?_); rintro e w3 ⟨a3, n3, c3, rfl, hn3, hl3, g3⟩) | (go_at_call 183; (with_reducible refine (A54.out _ _ _ _ hl3.out hn3 (hg.out.trans g3)).mono ?_); rintro e w4 ⟨rfl, g4⟩))
        refine bodyPost_ret (v := .tuple #[.slice a5 n5 c5, .bool true]) (by simp [results, Tryz.results176, go_sem]) rfl ⟨a5, n5, c5, r, by rw [dc], hn5, (hl5.out.gr g3).gr g4, hc'.out, ha, (hg.out.trans g3).trans g4⟩
      · have cc : cmpI ((r * r : Nat) : Int) (M : Int) = 1 := cmpI_gt (by omega)
        rw [cc] at A54
        have r0 : 0 < r := Nat.pos_of_ne_zero fun h => by rw [h] at hc; omega
        have dc : Hid (decide ((r - 1) * (r - 1) = M) = false) := by show _ = _; simp; omega
        have hc1 : Hid ((r - 1) * (r - 1) ≤ M ∧ M < (r - 1 + 1) * (r - 1 + 1)) := by refine ⟨by omega, ?_⟩; rw [Nat.sub_add_cancel r0]; exact hc
        clear hc
        go_wp2_with (first | (go_at_call 187; (with_reducible refine A32.out.mono ?_); rintro e w3 ⟨a3, n3, c3, rfl, hn3, hl3, g3⟩) | (go_at_call 183; (with_reducible refine (A54.out _ _ _ _ hl3.out hn3 (hg.out.trans g3)).mono ?_); rintro e w4 ⟨rfl, g4⟩) | (go_at_call 184; (with_reducible refine (A55.out _ r0 (g3.trans g4)).mono ?_); rintro e w6 ⟨a6, n6, c6, rfl, hn6, hl6, g6⟩))
        refine bodyPost_ret (v := .tuple #[.slice a6 n6 c6, .bool false]) (by simp [results, Tryz.results176, go_sem]) rfl ⟨a6, n6, c6, r - 1, by rw [dc.out], by omega, hl6.out, hc1.out.1, hc1.out.2, ((hg.out.trans g3).trans g4).trans g6⟩
end Go.Proofs.YteiggpgpkejoeaaGreatDoor
