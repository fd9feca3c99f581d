import Derived.Test.YtnmdnhmfmahjaaaGreatDoorM31
import Derived.Test.YtnmdnhmfmahjaaaGreatDoorM34
namespace Go.Proofs.YtnmdnhmfmahjaaaGreatDoor
open Go.RowKit
set_option linter.unusedVariables false

set_option maxHeartbeats 1600000 in
theorem nearest48z (ad : Option Addr) (n cap x k : Nat) (b : Int) (w : World) (hx : Lim w ad n cap 18446744073709551616 x) (b1 : n ≤ 1099511627776) (hb : b = -(k : Int)) (hk : k ≤ 68719476736) (hv : x * 2 ^ k < 18446744073709551616) (x0 : 0 < x) :
    Calls Tryz.prog 30 #[.slice ad n cap, .int .i64 b] w fun r w' => r = .returned (.int .u64 ((x * 2 ^ k : Nat) : Int)) ∧ Gr w w' := by
  have H42 : Hid (Calls Tryz.prog 46 #[.slice ad n cap, .int .i64 (-b)] w fun r w' => ∃ p o cap', r = .returned (.slice (some ⟨p, o, none⟩) 1 cap') ∧ 1 ≤ cap' ∧ cap' ≤ 9223372036854775807 ∧ w'.cell? ⟨p, o, none⟩ = some (.int .u64 ((x * 2 ^ k : Nat) : Int)) ∧ Gr w w') := by
    rw [show -b = (k : Int) by omega]
    refine Calls.mono (shift42 ad n cap x k w hx b1 hk) ?_
    rintro r w' ⟨a, m, c, rfl, h2, h3, h4⟩
    have hp : 0 < x * 2 ^ k := Nat.mul_pos x0 (Nat.two_pow_pos k)
    rcases lim_head h3 hv with ⟨h, _⟩ | ⟨_, rfl, p, o, rfl, h5, h6, h7⟩
    · omega
    · exact ⟨p, o, c, rfl, h5, h6, h7, h4⟩
  have hb0 : ¬ b > 0 := by omega
  have hb1 : -68719476736 ≤ b := by omega
  clear hx hb
  generalize x * 2 ^ k = v at *
  go_enter Tryz.func30, Tryz.ntmps30
  go_wp2_with (go_at_call 46; (with_reducible refine H42.out.mono ?_); rintro r w1 ⟨p, o, c1, rfl, hc, hm, hcell, g1⟩)
  go_ret
  exact ⟨rfl, g1⟩
set_option maxHeartbeats 3200000 in
theorem float22p (ad : Option Addr) (n cap x N Y : Nat) (e last : Int) (w : World) (dx : DyAt w false ad (n + 1) cap e x) (x0 : 0 < x) (hlast : max ((bl x : Int) + e - 53) (-1074) = last)
    (H48 : Hid (∀ w1, Gr w w1 → Calls Tryz.prog 30 #[.slice ad (n + 1) cap, .int .i64 (last - e)] w1 fun r w' => r = .returned (.int .u64 (N : Int)) ∧ Gr w1 w'))
    (A46 : Hid (∀ w, Calls Tryz.prog 29 #[.float .f64 (floatOfInt FloatKind.f64 (N : Int)), .int .i64 last] w fun e w' => e = .returned (.float .f64 Y) ∧ w' = w)) (hI : pinfB (absN Y) = false) :
    Calls Tryz.prog 7 #[.agg #[.bool false, .slice ad (n + 1) cap, .int .i64 e]] w fun r w' => r = .returned (.tuple #[.float .f64 Y, .int .i64 0]) ∧ Gr w w' := by
  have R := dx.r26
  have hle := dx.le
  have e1 := dx.low
  have e2 := dx.high
  have hbl : bl x ≤ 262144 := by
    obtain ⟨xs, g1, g2⟩ := dx.lim
    have h3 := bl_len g2
    rw [g1.len] at h3
    omega
  have H40 : Hid (∀ w1, Gr w w1 → Calls Tryz.prog 28 #[.slice ad (n + 1) cap] w1 fun r w' => r = .returned (.int .i64 (bl x : Int)) ∧ Gr w1 w') := fun w1 g => bitLength40 ad (n + 1) cap x w1 (dx.lim.gr g) x0 (by omega)
  have z1 : ((n : Int) + 1 == 0) = false := by simp; omega
  have l1 : -1074 ≤ last := by omega
  have l2 : last ≤ 2000000 := by omega
  have HL : Hid (max (IntKind.i64.wrap (IntKind.i64.wrap ((bl x : Int) + e) - 53)) (-1074) = last) := by
    show _ = _
    rw [IntKind.wrap_i64, IntKind.wrap_i64]
    omega
  clear dx hlast
  generalize (bl x : Int) = L at *
  have A44 := fun x w => inf44 x w
  have A49 := fun x y w => copy49 x y w
  go_enter Tryz.func7, Tryz.ntmps7
  go_wp2_with (first | (go_at_call 27; (with_reducible refine (R.out _ ((Gr.refl w).alloc _)).mono ?_); rintro r w1 ⟨rfl, g1⟩; have k0 : w1.cell? ⟨w.heap.size, 0, none⟩ = some (.bool false) := g1.keep (by simp); have k1 : w1.cell? ⟨w.heap.size, 1, none⟩ = some (.slice ad (n + 1) cap) := g1.keep (by simp); have k2 : w1.cell? ⟨w.heap.size, 2, none⟩ = some (.int .i64 e) := g1.keep (by simp); have G1 := ((Gr.refl w).alloc (.cells #[.bool false, .slice ad (n + 1) cap, .int .i64 e] 24)).trans g1))
  have hS0 : (w1.drew.cell? ⟨w.heap.size, 0, none⟩ = some (.bool false) ∧ w1.drew.cell? ⟨w.heap.size, 1, none⟩ = some (.slice ad (n + 1) cap) ∧ w1.drew.cell? ⟨w.heap.size, 2, none⟩ = some (.int .i64 e)) ∧ Gr w w1.drew := ⟨⟨k0, k1, k2⟩, G1.drew⟩
  clear k0 k1 k2 g1 G1
  go_region_held3 (fun w' => (w'.cell? ⟨w.heap.size, 0, none⟩ = some (.bool false) ∧ w'.cell? ⟨w.heap.size, 1, none⟩ = some (.slice ad (n + 1) cap) ∧ w'.cell? ⟨w.heap.size, 2, none⟩ = some (.int .i64 e)) ∧ Gr w w') (first | (with_reducible assumption) | (apply keep4; (with_reducible assumption); (with_reducible assumption))) (first | (go_at_call 28; (with_reducible refine (H40.out _ ?gg).mono ?_); (case gg => exact And.right ‹_ ∧ Gr w _›); rintro r w2 ⟨rfl, g2⟩))
  rw [HL.out]
  have hS1 := keep4 g2 hS0
  clear hS0 g2
  have k0 := hS1.1.1
  have k1 := hS1.1.2.1
  have k2 := hS1.1.2.2
  have G2 := hS1.2
  go_wp2_with (first | (go_at_call 30; (with_reducible refine (H48.out _ G2).mono ?_); rintro r w3 ⟨rfl, g3⟩; have j0 := g3.keep k0) | (go_at_call 29; (with_reducible refine (A46.out _).mono ?_); rintro r w4 ⟨rfl, rfl⟩) | (go_at_call 31; (with_reducible refine (A44 _ _).mono ?_); rintro r w4 ⟨rfl, rfl⟩) | (go_at_call 22; (with_reducible refine (A49 _ _ _).mono ?_); rintro r w4 ⟨rfl, rfl⟩))
  refine bodyPost_ret (v := .tuple #[.float .f64 Y, .int .i64 0]) (by simp [results, Tryz.results7, go_sem]) rfl ⟨rfl, G2.trans g3⟩
set_option maxHeartbeats 3200000 in
theorem float22n (ad : Option Addr) (n cap x N Y : Nat) (e last : Int) (w : World) (dx : DyAt w true ad (n + 1) cap e x) (x0 : 0 < x) (hlast : max ((bl x : Int) + e - 53) (-1074) = last)
    (H48 : Hid (∀ w1, Gr w w1 → Calls Tryz.prog 30 #[.slice ad (n + 1) cap, .int .i64 (last - e)] w1 fun r w' => r = .returned (.int .u64 (N : Int)) ∧ Gr w1 w'))
    (A46 : Hid (∀ w, Calls Tryz.prog 29 #[.float .f64 (floatOfInt FloatKind.f64 (N : Int)), .int .i64 last] w fun e w' => e = .returned (.float .f64 Y) ∧ w' = w)) (hI : pinfB (absN Y) = false) :
    Calls Tryz.prog 7 #[.agg #[.bool true, .slice ad (n + 1) cap, .int .i64 e]] w fun r w' => r = .returned (.tuple #[.float .f64 (copyN Y 13830554455654793216), .int .i64 0]) ∧ Gr w w' := by
  have R := dx.r26
  have hle := dx.le
  have e1 := dx.low
  have e2 := dx.high
  have hbl : bl x ≤ 262144 := by
    obtain ⟨xs, g1, g2⟩ := dx.lim
    have h3 := bl_len g2
    rw [g1.len] at h3
    omega
  have H40 : Hid (∀ w1, Gr w w1 → Calls Tryz.prog 28 #[.slice ad (n + 1) cap] w1 fun r w' => r = .returned (.int .i64 (bl x : Int)) ∧ Gr w1 w') := fun w1 g => bitLength40 ad (n + 1) cap x w1 (dx.lim.gr g) x0 (by omega)
  have z1 : ((n : Int) + 1 == 0) = false := by simp; omega
  have l1 : -1074 ≤ last := by omega
  have l2 : last ≤ 2000000 := by omega
  have HL : Hid (max (IntKind.i64.wrap (IntKind.i64.wrap ((bl x : Int) + e) - 53)) (-1074) = last) := by
    show _ = _
    rw [IntKind.wrap_i64, IntKind.wrap_i64]
    omega
  clear dx hlast
  generalize (bl x : Int) = L at *
  have A44 := fun x w => inf44 x w
  have A49 := fun x y w => copy49 x y w
  go_enter Tryz.func7, Tryz.ntmps7
  go_wp2_with (first | (go_at_call 27; (with_reducible refine (R.out _ ((Gr.refl w).alloc _)).mono ?_); rintro r w1 ⟨rfl, g1⟩; have k0 : w1.cell? ⟨w.heap.size, 0, none⟩ = some (.bool true) := g1.keep (by simp); have k1 : w1.cell? ⟨w.heap.size, 1, none⟩ = some (.slice ad (n + 1) cap) := g1.keep (by simp); have k2 : w1.cell? ⟨w.heap.size, 2, none⟩ = some (.int .i64 e) := g1.keep (by simp); have G1 := ((Gr.refl w).alloc (.cells #[.bool true, .slice ad (n + 1) cap, .int .i64 e] 24)).trans g1))
  have hS0 : (w1.drew.cell? ⟨w.heap.size, 0, none⟩ = some (.bool true) ∧ w1.drew.cell? ⟨w.heap.size, 1, none⟩ = some (.slice ad (n + 1) cap) ∧ w1.drew.cell? ⟨w.heap.size, 2, none⟩ = some (.int .i64 e)) ∧ Gr w w1.drew := ⟨⟨k0, k1, k2⟩, G1.drew⟩
  clear k0 k1 k2 g1 G1
  go_region_held3 (fun w' => (w'.cell? ⟨w.heap.size, 0, none⟩ = some (.bool true) ∧ w'.cell? ⟨w.heap.size, 1, none⟩ = some (.slice ad (n + 1) cap) ∧ w'.cell? ⟨w.heap.size, 2, none⟩ = some (.int .i64 e)) ∧ Gr w w') (first | (with_reducible assumption) | (apply keep4; (with_reducible assumption); (with_reducible assumption))) (first | (go_at_call 28; (with_reducible refine (H40.out _ ?gg).mono ?_); (case gg => exact And.right ‹_ ∧ Gr w _›); rintro r w2 ⟨rfl, g2⟩))
  rw [HL.out]
  have hS1 := keep4 g2 hS0
  clear hS0 g2
  have k0 := hS1.1.1
  have k1 := hS1.1.2.1
  have k2 := hS1.1.2.2
  have G2 := hS1.2
  go_wp2_with (first | (go_at_call 30; (with_reducible refine (H48.out _ G2).mono ?_); rintro r w3 ⟨rfl, g3⟩; have j0 := g3.keep k0) | (go_at_call 29; (with_reducible refine (A46.out _).mono ?_); rintro r w4 ⟨rfl, rfl⟩) | (go_at_call 31; (with_reducible refine (A44 _ _).mono ?_); rintro r w4 ⟨rfl, rfl⟩) | (go_at_call 22; (with_reducible refine (A49 _ _ _).mono ?_); rintro r w4 ⟨rfl, rfl⟩))
  refine bodyPost_ret (v := .tuple #[.float .f64 (copyN Y 13830554455654793216), .int .i64 0]) (by simp [results, Tryz.results7, go_sem]) rfl ⟨rfl, G2.trans g3⟩
set_option maxHeartbeats 3200000 in
theorem float22o (s : Bool) (ad : Option Addr) (n cap x N Y : Nat) (e last : Int) (w : World) (dx : DyAt w s ad (n + 1) cap e x) (x0 : 0 < x) (hlast : max ((bl x : Int) + e - 53) (-1074) = last)
    (H48 : Hid (∀ w1, Gr w w1 → Calls Tryz.prog 30 #[.slice ad (n + 1) cap, .int .i64 (last - e)] w1 fun r w' => r = .returned (.int .u64 (N : Int)) ∧ Gr w1 w'))
    (A46 : Hid (∀ w, Calls Tryz.prog 29 #[.float .f64 (floatOfInt FloatKind.f64 (N : Int)), .int .i64 last] w fun e w' => e = .returned (.float .f64 Y) ∧ w' = w)) (hI : pinfB (absN Y) = true) :
    Calls Tryz.prog 7 #[.agg #[.bool s, .slice ad (n + 1) cap, .int .i64 e]] w fun r w' => r = .returned (.tuple #[.float .f64 0, .int .i64 6]) ∧ Gr w w' := by
  have R := dx.r26
  have hle := dx.le
  have e1 := dx.low
  have e2 := dx.high
  have hbl : bl x ≤ 262144 := by
    obtain ⟨xs, g1, g2⟩ := dx.lim
    have h3 := bl_len g2
    rw [g1.len] at h3
    omega
  have H40 : Hid (∀ w1, Gr w w1 → Calls Tryz.prog 28 #[.slice ad (n + 1) cap] w1 fun r w' => r = .returned (.int .i64 (bl x : Int)) ∧ Gr w1 w') := fun w1 g => bitLength40 ad (n + 1) cap x w1 (dx.lim.gr g) x0 (by omega)
  have z1 : ((n : Int) + 1 == 0) = false := by simp; omega
  have l1 : -1074 ≤ last := by omega
  have l2 : last ≤ 2000000 := by omega
  have HL : Hid (max (IntKind.i64.wrap (IntKind.i64.wrap ((bl x : Int) + e) - 53)) (-1074) = last) := by
    show _ = _
    rw [IntKind.wrap_i64, IntKind.wrap_i64]
    omega
  clear dx hlast
  generalize (bl x : Int) = L at *
  have A44 := fun x w => inf44 x w
  have A49 := fun x y w => copy49 x y w
  go_enter Tryz.func7, Tryz.ntmps7
  go_wp2_with (first | (go_at_call 27; (with_reducible refine (R.out _ ((Gr.refl w).alloc _)).mono ?_); rintro r w1 ⟨rfl, g1⟩; have k0 : w1.cell? ⟨w.heap.size, 0, none⟩ = some (.bool s) := g1.keep (by simp); have k1 : w1.cell? ⟨w.heap.size, 1, none⟩ = some (.slice ad (n + 1) cap) := g1.keep (by simp); have k2 : w1.cell? ⟨w.heap.size, 2, none⟩ = some (.int .i64 e) := g1.keep (by simp); have G1 := ((Gr.refl w).alloc (.cells #[.bool s, .slice ad (n + 1) cap, .int .i64 e] 24)).trans g1))
  have hS0 : (w1.drew.cell? ⟨w.heap.size, 0, none⟩ = some (.bool s) ∧ w1.drew.cell? ⟨w.heap.size, 1, none⟩ = some (.slice ad (n + 1) cap) ∧ w1.drew.cell? ⟨w.heap.size, 2, none⟩ = some (.int .i64 e)) ∧ Gr w w1.drew := ⟨⟨k0, k1, k2⟩, G1.drew⟩
  clear k0 k1 k2 g1 G1
  go_region_held3 (fun w' => (w'.cell? ⟨w.heap.size, 0, none⟩ = some (.bool s) ∧ w'.cell? ⟨w.heap.size, 1, none⟩ = some (.slice ad (n + 1) cap) ∧ w'.cell? ⟨w.heap.size, 2, none⟩ = some (.int .i64 e)) ∧ Gr w w') (first | (with_reducible assumption) | (apply keep4; (with_reducible assumption); (with_reducible assumption))) (first | (go_at_call 28; (with_reducible refine (H40.out _ ?gg).mono ?_); (case gg => exact And.right ‹_ ∧ Gr w _›); rintro r w2 ⟨rfl, g2⟩))
  rw [HL.out]
  have hS1 := keep4 g2 hS0
  clear hS0 g2
  have k0 := hS1.1.1
  have k1 := hS1.1.2.1
  have k2 := hS1.1.2.2
  have G2 := hS1.2
  go_wp2_with (first | (go_at_call 30; (with_reducible refine (H48.out _ G2).mono ?_); rintro r w3 ⟨rfl, g3⟩; have j0 := g3.keep k0) | (go_at_call 29; (with_reducible refine (A46.out _).mono ?_); rintro r w4 ⟨rfl, rfl⟩) | (go_at_call 31; (with_reducible refine (A44 _ _).mono ?_); rintro r w4 ⟨rfl, rfl⟩) | (go_at_call 22; (with_reducible refine (A49 _ _ _).mono ?_); rintro r w4 ⟨rfl, rfl⟩))
  refine bodyPost_ret (v := .tuple #[.float .f64 0, .int .i64 6]) (by simp [results, Tryz.results7, go_sem]) rfl ⟨rfl, G2.trans g3⟩
end Go.Proofs.YtnmdnhmfmahjaaaGreatDoor
namespace Go.Proofs.YtnmdnhmfmahjaaaGreatDoor.Fl
open Go.RowKit
open Ieee
set_option linter.unusedVariables false

/-- what was rounded: N gaps, half a gap off at most, even where it is half a gap -/
structure Rnd (A G N : Nat) : Prop where
  lo : 2 * (N * G) ≤ 2 * A + G
  hi : 2 * A ≤ 2 * (N * G) + G
  tlo : 2 * (N * G) = 2 * A + G → N % 2 = 0
  thi : 2 * A = 2 * (N * G) + G → N % 2 = 0
theorem Rnd.of {A G N K : Nat} (h : N * G = K) (lo : 2 * K ≤ 2 * A + G) (hi : 2 * A ≤ 2 * K + G) (tlo : 2 * K = 2 * A + G → N % 2 = 0) (thi : 2 * A = 2 * K + G → N % 2 = 0) : Rnd A G N := by
  subst h; exact ⟨lo, hi, tlo, thi⟩
theorem rnd_exact (A G N : Nat) (hG : 0 < G) (h : A = N * G) : Rnd A G N := by
  subst h
  exact ⟨by omega, by omega, fun h => by omega, fun h => by omega⟩
/-- an odd number, rounded by the program's rule -/
theorem rnd_up (q b F : Nat) (hF : 0 < F) (b0 : 0 < b) : Rnd ((2 * q + 1) * F) (2 ^ b * F) ((2 * q + 1) / 2 ^ b + (upB (2 * q + 1) b).toNat) := by
  obtain ⟨c, rfl⟩ : ∃ c, b = c + 1 := ⟨b - 1, by omega⟩
  have hP : 0 < 2 ^ c := Nat.two_pow_pos c
  have e1 : 2 ^ (c + 1) = 2 * 2 ^ c := by rw [Nat.pow_succ]; omega
  have hbit : bitB (2 * q + 1) c = decide ((2 * q + 1) / 2 ^ c % 2 = 1) := rfl
  have hd : (2 * q + 1) / 2 ^ (c + 1) = (2 * q + 1) / 2 ^ c / 2 := by rw [Nat.pow_succ, Nat.div_div_eq_div_mul]
  have hx := Nat.div_add_mod (2 * q + 1) (2 ^ c)
  have hm := Nat.mod_lt (2 * q + 1) hP
  have hup : upB (2 * q + 1) (c + 1) = (decide ((2 * q + 1) / 2 ^ c % 2 = 1) && (decide (1 < c + 1) || decide ((2 * q + 1) / 2 ^ c / 2 % 2 = 1))) := by
    unfold upB
    rw [hd]
    rfl
  rw [hup, hd, e1]
  -- c = 0: nothing below the bit; c > 0: the lowest bit is below it
  have hlow : (c = 0 ∧ (2 * q + 1) % 2 ^ c = 0) ∨ (0 < c ∧ 0 < (2 * q + 1) % 2 ^ c) := by
    by_cases h : c = 0
    · subst h; exact Or.inl ⟨rfl, Nat.mod_one _⟩
    · refine Or.inr ⟨by omega, Nat.pos_of_ne_zero fun h0 => ?_⟩
      obtain ⟨d, rfl⟩ : ∃ d, c = d + 1 := ⟨c - 1, by omega⟩
      have : 2 ∣ 2 * q + 1 := Nat.dvd_trans ⟨2 ^ d, by rw [Nat.pow_succ]; omega⟩ (Nat.dvd_of_mod_eq_zero h0)
      omega
  generalize (2 * q + 1) / 2 ^ c = y at *
  generalize (2 * q + 1) % 2 ^ c = z at *
  generalize 2 ^ c = P at *
  generalize 2 * q + 1 = x at *
  have hxF : x * F = y * (P * F) + z * F := by rw [← hx, Nat.add_mul, Nat.mul_assoc, Nat.mul_left_comm]
  have hzF : z * F < P * F := Nat.mul_lt_mul_of_pos_right hm hF
  have hz0 : 0 < c → 0 < z * F := fun h => Nat.mul_pos (by omega) hF
  have hzc : c = 0 → z * F = 0 := fun h => by rw [show z = 0 by omega, Nat.zero_mul]
  have ePF : 2 * P * F = 2 * (P * F) := Nat.mul_assoc _ _ _
  rw [hxF, ePF]
  generalize P * F = H at *
  generalize z * F = zf at *
  have hy := Nat.div_add_mod y 2
  by_cases hb : y % 2 = 1
  · have ey : y = 2 * (y / 2) + 1 := by omega
    by_cases hc : c = 0
    · have hz := hzc hc
      subst hz
      by_cases hp : y / 2 % 2 = 1
      · have hN : y / 2 + (decide (y % 2 = 1) && (decide (1 < c + 1) || decide (y / 2 % 2 = 1))).toNat = y / 2 + 1 := by simp [hb, hp]
        rw [hN]
        have e2 : (y / 2 + 1) * (2 * H) = y * H + H := by
          conv => rhs; rw [ey]
          rw [Nat.add_mul, Nat.add_mul, Nat.mul_comm 2 (y / 2), Nat.mul_assoc]; omega
        exact Rnd.of e2 (by omega) (by omega) (fun _ => by omega) (fun h => by omega)
      · have hN : y / 2 + (decide (y % 2 = 1) && (decide (1 < c + 1) || decide (y / 2 % 2 = 1))).toNat = y / 2 := by simp [hb, hp, hc]
        rw [hN]
        have e2 : y / 2 * (2 * H) + H = y * H := by
          conv => rhs; rw [ey]
          rw [Nat.add_mul, Nat.mul_comm 2 (y / 2), Nat.mul_assoc]; omega
        rw [← e2]
        exact ⟨by omega, by omega, fun h => by omega, fun _ => by omega⟩
    · have hz := hz0 (by omega)
      have hN : y / 2 + (decide (y % 2 = 1) && (decide (1 < c + 1) || decide (y / 2 % 2 = 1))).toNat = y / 2 + 1 := by simp [hb, show 1 < c + 1 by omega]
      rw [hN]
      have e2 : (y / 2 + 1) * (2 * H) = y * H + H := by
        conv => rhs; rw [ey]
        rw [Nat.add_mul, Nat.add_mul, Nat.mul_comm 2 (y / 2), Nat.mul_assoc]; omega
      exact Rnd.of e2 (by omega) (by omega) (fun h => by omega) (fun h => by omega)
  · have ey : y = 2 * (y / 2) := by omega
    have hN : y / 2 + (decide (y % 2 = 1) && (decide (1 < c + 1) || decide (y / 2 % 2 = 1))).toNat = y / 2 := by simp [hb]
    rw [hN]
    have e2 : y / 2 * (2 * H) = y * H := by
      conv => rhs; rw [ey]
      rw [Nat.mul_comm 2 (y / 2), Nat.mul_assoc]
    exact Rnd.of e2 (by omega) (by omega) (fun h => by omega) (fun h => by omega)
/-- the rung of N gaps, and its neighbours -/
theorem rung_near (t N : Nat) (hN : N ≤ 9007199254740992) (h : t = 0 ∨ 4503599627370496 ≤ N) :
    M (t * 4503599627370496 + N) = N * 2 ^ t ∧ N * 2 ^ t + 2 ^ t ≤ M (t * 4503599627370496 + N + 1) ∧
      (0 < t * 4503599627370496 + N → (M (t * 4503599627370496 + N - 1) + 2 ^ t = N * 2 ^ t ∨ (0 < t ∧ N = 4503599627370496 ∧ 2 * M (t * 4503599627370496 + N - 1) + 2 ^ t = 2 * (N * 2 ^ t)))) := by
  have hM := M_at t N (by rcases h with h | h; exact Or.inr ⟨h, hN⟩; exact Or.inl ⟨h, hN⟩)
  refine ⟨hM, ?_, fun h0 => ?_⟩
  · have hs := M_succ (t * 4503599627370496 + N)
    have he : t ≤ ex (t * 4503599627370496 + N) := by unfold ex; omega
    have := Nat.pow_le_pow_right (n := 2) (by omega) he
    rw [hs, hM]
    omega
  · have hs := M_succ (t * 4503599627370496 + N - 1)
    rw [show t * 4503599627370496 + N - 1 + 1 = t * 4503599627370496 + N by omega, hM] at hs
    by_cases hc : t = 0 ∨ 4503599627370496 < N
    · left
      have he : ex (t * 4503599627370496 + N - 1) = t := by unfold ex; omega
      rw [he] at hs
      omega
    · right
      have he : ex (t * 4503599627370496 + N - 1) = t - 1 := by unfold ex; omega
      rw [he] at hs
      refine ⟨by omega, by omega, ?_⟩
      have e2 : 2 ^ t = 2 * 2 ^ (t - 1) := by
        obtain ⟨u, rfl⟩ : ∃ u, t = u + 1 := ⟨t - 1, by omega⟩
        rw [Nat.add_sub_cancel, Nat.pow_succ, Nat.mul_comm]
      omega
end Go.Proofs.YtnmdnhmfmahjaaaGreatDoor.Fl
namespace Go.Proofs.YtnmdnhmfmahjaaaGreatDoor.Fl
open Go.RowKit
open Ieee
set_option linter.unusedVariables false

theorem copyN_t (r : Nat) (h : r < 9223372036854775808) : copyN r 13830554455654793216 = W true r := by
  have h1 : bits BinOp.andNot IntKind.u64 (r : Int) 9223372036854775808 = (r : Int) := by
    have := abs_W false r h
    rw [show W false r = r from rfl] at this
    unfold absN at this
    have h2 : 0 ≤ bits BinOp.andNot IntKind.u64 (r : Int) 9223372036854775808 := by
      show 0 ≤ IntKind.u64.wrap _
      rw [IntKind.wrap_u64]; omega
    omega
  have h3 : bits BinOp.and IntKind.u64 13830554455654793216 9223372036854775808 = ((9223372036854775808 : Nat) : Int) := by kernel_rfl
  unfold copyN
  rw [h1, show ((13830554455654793216 : Nat) : Int) = 13830554455654793216 from rfl, h3, bits_or_u64_nat r 9223372036854775808 (by omega) (by omega)]
  have : r ||| 9223372036854775808 = 9223372036854775808 + r := by
    have := Nat.two_pow_add_eq_or_of_lt (i := 63) (b := r) (by simpa using h) 1
    rw [Nat.or_comm]
    simpa using this.symm
  rw [this]
  show _ = 9223372036854775808 + r
  simp
  omega
@[irreducible] def DD : Nat := 2 ^ (KK - 1074).toNat
theorem DD_eq : DD = 2 ^ (KK - 1074).toNat := by unfold DD; rfl
theorem DD_pos : 0 < DD := by rw [DD_eq]; exact Nat.two_pow_pos _
/-- THE FLOAT NEAREST TO A RIGHT DYAD: a rung, or too great -/
theorem float_spec (s : Bool) (ad : Option Addr) (n cap q : Nat) (e : Int) (w : World) (dx : DyAt w s ad (n + 1) cap e (2 * q + 1)) (e1 : -30000 ≤ e) (e2 : e ≤ 30000) (hbl : bl (2 * q + 1) ≤ 60000) (hbe : (bl (2 * q + 1) : Int) + e ≤ 30000) :
    ∃ (t N : Nat), N ≤ 9007199254740992 ∧ (t = 0 ∨ 4503599627370496 ≤ N) ∧ Rnd ((2 * q + 1) * 2 ^ (e + KK).toNat) (2 ^ t * DD) N ∧ (0 < t → 4503599627370496 * (2 ^ t * DD) ≤ (2 * q + 1) * 2 ^ (e + KK).toNat) ∧
      ((t * 4503599627370496 + N < 9218868437227405312 ∧ ∀ w1, Gr w w1 → Calls Tryz.prog 7 #[.agg #[.bool s, .slice ad (n + 1) cap, .int .i64 e]] w1 fun r w' => r = .returned (.tuple #[.float .f64 (W s (t * 4503599627370496 + N)), .int .i64 0]) ∧ Gr w1 w') ∨
        (9218868437227405312 ≤ t * 4503599627370496 + N ∧ ∀ w1, Gr w w1 → Calls Tryz.prog 7 #[.agg #[.bool s, .slice ad (n + 1) cap, .int .i64 e]] w1 fun r w' => r = .returned (.tuple #[.float .f64 0, .int .i64 6]) ∧ Gr w1 w')) := by
  have hkk := KK_eq
  have hle := dx.le
  obtain ⟨L, hL⟩ : ∃ L, L = bl (2 * q + 1) := ⟨_, rfl⟩
  have hx1 : 2 * q + 1 < 2 ^ L := hL ▸ bl_lt _
  have hx2 : 2 ^ L ≤ 2 * (2 * q + 1) := hL ▸ bl_le (by omega)
  have hL0 : 0 < L := Nat.pos_of_ne_zero fun h => by rw [h] at hx1; simp at hx1
  obtain ⟨last, hlast⟩ : ∃ last : Int, last = max ((L : Int) + e - 53) (-1074) := ⟨_, rfl⟩
  obtain ⟨t, ht⟩ : ∃ t : Nat, (t : Int) = last + 1074 := ⟨(last + 1074).toNat, by omega⟩
  have hG : 2 ^ t * DD = 2 ^ (last + KK).toNat := by
    rw [DD_eq, ← Nat.pow_add]; congr 1; omega
  -- the rounded number
  obtain ⟨N, hN, hN2, hR, hlow, H48⟩ : ∃ N, N ≤ 9007199254740992 ∧ (t = 0 ∨ 4503599627370496 ≤ N) ∧ Rnd ((2 * q + 1) * 2 ^ (e + KK).toNat) (2 ^ t * DD) N ∧ (0 < t → 4503599627370496 * (2 ^ t * DD) ≤ (2 * q + 1) * 2 ^ (e + KK).toNat) ∧
      ∀ w1, Gr w w1 → Calls Tryz.prog 30 #[.slice ad (n + 1) cap, .int .i64 (last - e)] w1 fun r w' => r = .returned (.int .u64 (N : Int)) ∧ Gr w1 w' := by
    by_cases hb : last - e ≤ 0
    · obtain ⟨k, hk⟩ : ∃ k : Nat, (k : Int) = e - last := ⟨(e - last).toNat, by omega⟩
      have hlt : (2 * q + 1) * 2 ^ k < 9007199254740992 := by
        have h1 : (2 * q + 1) * 2 ^ k < 2 ^ L * 2 ^ k := Nat.mul_lt_mul_of_pos_right hx1 (Nat.two_pow_pos k)
        rw [← Nat.pow_add] at h1
        have h2 : 2 ^ (L + k) ≤ 2 ^ 53 := Nat.pow_le_pow_right (by omega) (by omega)
        omega
      have eA : (2 * q + 1) * 2 ^ (e + KK).toNat = (2 * q + 1) * 2 ^ k * 2 ^ (last + KK).toNat := by
        rw [Nat.mul_assoc, ← Nat.pow_add]; congr 2; omega
      have hge : 0 < t → 4503599627370496 ≤ (2 * q + 1) * 2 ^ k := fun h0 => by
        have h1 : 2 ^ L * 2 ^ k ≤ 2 * (2 * q + 1) * 2 ^ k := Nat.mul_le_mul_right _ hx2
        rw [← Nat.pow_add, show L + k = 53 by omega, Nat.mul_assoc] at h1
        omega
      refine ⟨(2 * q + 1) * 2 ^ k, by omega, ?_, ?_, ?_, fun w1 g => nearest48z ad (n + 1) cap (2 * q + 1) k _ w1 (dx.lim.gr g) (by omega) (by omega) (by omega) (by omega) (by omega)⟩
      · by_cases h0 : t = 0
        · exact Or.inl h0
        · exact Or.inr (hge (by omega))
      · rw [hG]; exact rnd_exact _ _ _ (Nat.two_pow_pos _) eA
      · intro h0
        rw [hG, eA]
        exact Nat.mul_le_mul_right _ (hge h0)
    · obtain ⟨b, hb2⟩ : ∃ b : Nat, (b : Int) = last - e := ⟨(last - e).toNat, by omega⟩
      have hlt : (2 * q + 1) / 2 ^ b < 9007199254740992 := by
        rw [Nat.div_lt_iff_lt_mul (Nat.two_pow_pos b)]
        have h2 : 2 ^ L ≤ 2 ^ (53 + b) := Nat.pow_le_pow_right (by omega) (by omega)
        rw [Nat.pow_add] at h2
        have : (2 : Nat) ^ 53 = 9007199254740992 := rfl
        rw [this] at h2
        omega
      have hup : (upB (2 * q + 1) b).toNat ≤ 1 := by cases upB (2 * q + 1) b <;> decide
      have eG : 2 ^ (last + KK).toNat = 2 ^ b * 2 ^ (e + KK).toNat := by rw [← Nat.pow_add]; congr 1; omega
      have hge : 0 < t → 4503599627370496 * 2 ^ b ≤ 2 * q + 1 := fun h0 => by
        have h1 : L = 53 + b := by omega
        rw [h1, Nat.pow_add] at hx2
        have : (2 : Nat) ^ 53 = 2 * 4503599627370496 := rfl
        rw [this, Nat.mul_assoc] at hx2
        omega
      refine ⟨(2 * q + 1) / 2 ^ b + (upB (2 * q + 1) b).toNat, by omega, ?_, ?_, ?_, fun w1 g => ?_⟩
      · by_cases h0 : t = 0
        · exact Or.inl h0
        · have := (Nat.le_div_iff_mul_le (Nat.two_pow_pos b)).2 (hge (by omega))
          exact Or.inr (by omega)
      · rw [hG, eG]; exact rnd_up q b _ (Nat.two_pow_pos _) (by omega)
      · intro h0
        rw [hG, eG, ← Nat.mul_assoc]
        exact Nat.mul_le_mul_right _ (hge h0)
      · have := nearest48p ad (n + 1) cap (2 * q + 1) b w1 (dx.lim.gr g) (by omega) (by omega) (by omega) (by omega)
        rw [hb2] at this
        exact this
  refine ⟨t, N, hN, hN2, hR, hlow, ?_⟩
  obtain ⟨hM, _, _⟩ := rung_near t N hN hN2
  have A46 : Hid (∀ w, Calls Tryz.prog 29 #[.float .f64 (floatOfInt FloatKind.f64 (N : Int)), .int .i64 last] w fun e w' => e = .returned (.float .f64 (min (t * 4503599627370496 + N) 9218868437227405312)) ∧ w' = w) := by
    intro w
    clear hR hlow hG H48 dx
    rw [floatOfInt_W (N : Int) (by omega), show decide ((N : Int) < 0) = false from decide_eq_false (by omega), show ((N : Int)).natAbs = N by omega]
    by_cases h0 : N = 0
    · subst h0
      obtain rfl : t = 0 := by rcases hN2 with h | h; exact h; exact absurd h (by decide)
      have hz : ofN 0 = 0 := M_inj ((ofN_spec 0 (by omega)).1.trans (by rw [Nat.zero_mul, M_zero]))
      rw [hz]
      have := ldexp_same (W false 0) last w (by rw [zeroB_W false 0 (by omega)]; rfl)
      exact this
    · exact ldexpN (ofN N) N (t * 4503599627370496 + N) t last (by omega) (ofN_spec N (by omega)).2.1 (ofN_spec N (by omega)).1 ht (by omega) hM w
  rw [hL] at hlast
  by_cases hf : t * 4503599627370496 + N < 9218868437227405312
  · rw [Nat.min_eq_left (by omega)] at A46
    have hI : pinfB (absN (t * 4503599627370496 + N)) = false := by
      have h1 := abs_W false (t * 4503599627370496 + N) (by omega)
      rw [show W false (t * 4503599627370496 + N) = t * 4503599627370496 + N from rfl] at h1
      rw [h1]
      have h2 := pinfB_W false (t * 4503599627370496 + N) (by omega)
      rw [show W false (t * 4503599627370496 + N) = t * 4503599627370496 + N from rfl] at h2
      rw [h2, decide_eq_false (by omega)]; rfl
    refine Or.inl ⟨hf, fun w1 g => ?_⟩
    cases s
    · exact float22p ad n cap (2 * q + 1) N (t * 4503599627370496 + N) e last w1 (dx.gr g) (by omega) hlast.symm (fun w2 g2 => H48 w2 (g.trans g2)) A46 hI
    · have := float22n ad n cap (2 * q + 1) N (t * 4503599627370496 + N) e last w1 (dx.gr g) (by omega) hlast.symm (fun w2 g2 => H48 w2 (g.trans g2)) A46 hI
      rw [copyN_t _ (by omega)] at this
      exact this
  · rw [Nat.min_eq_right (by omega)] at A46
    refine Or.inr ⟨by omega, fun w1 g => float22o s ad n cap (2 * q + 1) N 9218868437227405312 e last w1 (dx.gr g) (by omega) hlast.symm (fun w2 g2 => H48 w2 (g.trans g2)) A46 ?_⟩
    have h1 := abs_W false 9218868437227405312 (by omega)
    rw [show W false 9218868437227405312 = 9218868437227405312 from rfl] at h1
    have h2 := pinfB_W false 9218868437227405312 (by omega)
    rw [show W false 9218868437227405312 = 9218868437227405312 from rfl] at h2
    exact (congrArg pinfB h1).trans h2
end Go.Proofs.YtnmdnhmfmahjaaaGreatDoor.Fl
