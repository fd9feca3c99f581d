import Derived.Test.YtaiflkpanankcaaDoorFB
namespace Go.Proofs.YtaiflkpanankcaaDoor
open Go.RowKit
set_option linter.unusedVariables false

set_option maxHeartbeats 1600000 in
theorem nearest48z (ad : Option Addr) (n cap x k : Nat) (b : Int) (w : World) (hx : Lim w ad n cap 18446744073709551616 x) (b1 : n ≤ 1099511627776) (hb : b = -(k : Int)) (hk : k ≤ 68719476736) (hv : x * 2 ^ k < 18446744073709551616) (x0 : 0 < x) :
    Calls Tryd.prog 48 #[.slice ad n cap, .int .i64 b] w fun r w' => r = .returned (.int .u64 ((x * 2 ^ k : Nat) : Int)) ∧ Gr w w' := by
  have H42 : Hid (Calls Tryd.prog 42 #[.slice ad n cap, .int .i64 (-b)] w fun r w' => ∃ p o cap', r = .returned (.slice (some ⟨p, o, none⟩) 1 cap') ∧ 1 ≤ cap' ∧ cap' ≤ 9223372036854775807 ∧ w'.cell? ⟨p, o, none⟩ = some (.int .u64 ((x * 2 ^ k : Nat) : Int)) ∧ Gr w w') := by
    rw [show -b = (k : Int) by omega]
    refine Calls.mono (shift42 ad n cap x k w hx b1 hk) ?_
    rintro r w' ⟨a, m, c, rfl, h2, h3, h4⟩
    have hp : 0 < x * 2 ^ k := Nat.mul_pos x0 (Nat.two_pow_pos k)
    rcases lim_head h3 hv with ⟨h, _⟩ | ⟨_, rfl, p, o, rfl, h5, h6, h7⟩
    · omega
    · exact ⟨p, o, c, rfl, h5, h6, h7, h4⟩
  have hb0 : ¬ b > 0 := by omega
  have hb1 : -68719476736 ≤ b := by omega
  clear hx hb
  generalize x * 2 ^ k = v at *
  go_enter Tryd.func48, Tryd.ntmps48
  go_wp2_with (go_at_call 42; (with_reducible refine H42.out.mono ?_); rintro r w1 ⟨p, o, c1, rfl, hc, hm, hcell, g1⟩)
  go_ret
  exact ⟨rfl, g1⟩
set_option maxHeartbeats 3200000 in
theorem float22p (ad : Option Addr) (n cap x N Y : Nat) (e last : Int) (w : World) (dx : DyAt w false ad (n + 1) cap e x) (x0 : 0 < x) (hlast : max ((bl x : Int) + e - 53) (-1074) = last)
    (H48 : Hid (∀ w1, Gr w w1 → Calls Tryd.prog 48 #[.slice ad (n + 1) cap, .int .i64 (last - e)] w1 fun r w' => r = .returned (.int .u64 (N : Int)) ∧ Gr w1 w'))
    (A46 : Hid (∀ w, Calls Tryd.prog 46 #[.float .f64 (floatOfInt FloatKind.f64 (N : Int)), .int .i64 last] w fun e w' => e = .returned (.float .f64 Y) ∧ w' = w)) (hI : pinfB (absN Y) = false) :
    Calls Tryd.prog 22 #[.agg #[.bool false, .slice ad (n + 1) cap, .int .i64 e]] w fun r w' => r = .returned (.tuple #[.float .f64 Y, .int .i64 0]) ∧ Gr w w' := by
  have R := dx.r26
  have hle := dx.le
  have e1 := dx.low
  have e2 := dx.high
  have hbl : bl x ≤ 262144 := by
    obtain ⟨xs, g1, g2⟩ := dx.lim
    have h3 := bl_len g2
    rw [g1.len] at h3
    omega
  have H40 : Hid (∀ w1, Gr w w1 → Calls Tryd.prog 40 #[.slice ad (n + 1) cap] w1 fun r w' => r = .returned (.int .i64 (bl x : Int)) ∧ Gr w1 w') := fun w1 g => bitLength40 ad (n + 1) cap x w1 (dx.lim.gr g) x0 (by omega)
  have z1 : ((n : Int) + 1 == 0) = false := by simp; omega
  have l1 : -1074 ≤ last := by omega
  have l2 : last ≤ 2000000 := by omega
  have HL : Hid (max (IntKind.i64.wrap (IntKind.i64.wrap ((bl x : Int) + e) - 53)) (-1074) = last) := by
    show _ = _
    rw [IntKind.wrap_i64, IntKind.wrap_i64]
    omega
  clear dx hlast
  generalize (bl x : Int) = L at *
  have A44 := fun x w => inf44 x w
  have A49 := fun x y w => copy49 x y w
  go_enter Tryd.func22, Tryd.ntmps22
  go_wp2_with (first | (go_at_call 26; (with_reducible refine (R.out _ ((Gr.refl w).alloc _)).mono ?_); rintro r w1 ⟨rfl, g1⟩; have k0 : w1.cell? ⟨w.heap.size, 0, none⟩ = some (.bool false) := g1.keep (by simp); have k1 : w1.cell? ⟨w.heap.size, 1, none⟩ = some (.slice ad (n + 1) cap) := g1.keep (by simp); have k2 : w1.cell? ⟨w.heap.size, 2, none⟩ = some (.int .i64 e) := g1.keep (by simp); have G1 := ((Gr.refl w).alloc (.cells #[.bool false, .slice ad (n + 1) cap, .int .i64 e] 24)).trans g1))
  have hS0 : (w1.drew.cell? ⟨w.heap.size, 0, none⟩ = some (.bool false) ∧ w1.drew.cell? ⟨w.heap.size, 1, none⟩ = some (.slice ad (n + 1) cap) ∧ w1.drew.cell? ⟨w.heap.size, 2, none⟩ = some (.int .i64 e)) ∧ Gr w w1.drew := ⟨⟨k0, k1, k2⟩, G1.drew⟩
  clear k0 k1 k2 g1 G1
  go_region_held3 (fun w' => (w'.cell? ⟨w.heap.size, 0, none⟩ = some (.bool false) ∧ w'.cell? ⟨w.heap.size, 1, none⟩ = some (.slice ad (n + 1) cap) ∧ w'.cell? ⟨w.heap.size, 2, none⟩ = some (.int .i64 e)) ∧ Gr w w') (first | (with_reducible assumption) | (apply keep4; (with_reducible assumption); (with_reducible assumption))) (first | (go_at_call 40; (with_reducible refine (H40.out _ ?gg).mono ?_); (case gg => exact And.right ‹_ ∧ Gr w _›); rintro r w2 ⟨rfl, g2⟩))
  rw [HL.out]
  have hS1 := keep4 g2 hS0
  clear hS0 g2
  have k0 := hS1.1.1
  have k1 := hS1.1.2.1
  have k2 := hS1.1.2.2
  have G2 := hS1.2
  go_wp2_with (first | (go_at_call 48; (with_reducible refine (H48.out _ G2).mono ?_); rintro r w3 ⟨rfl, g3⟩; have j0 := g3.keep k0) | (go_at_call 46; (with_reducible refine (A46.out _).mono ?_); rintro r w4 ⟨rfl, rfl⟩) | (go_at_call 44; (with_reducible refine (A44 _ _).mono ?_); rintro r w4 ⟨rfl, rfl⟩) | (go_at_call 49; (with_reducible refine (A49 _ _ _).mono ?_); rintro r w4 ⟨rfl, rfl⟩))
  refine bodyPost_ret (v := .tuple #[.float .f64 Y, .int .i64 0]) (by simp [results, Tryd.results22, go_sem]) rfl ⟨rfl, G2.trans g3⟩
set_option maxHeartbeats 3200000 in
theorem float22n (ad : Option Addr) (n cap x N Y : Nat) (e last : Int) (w : World) (dx : DyAt w true ad (n + 1) cap e x) (x0 : 0 < x) (hlast : max ((bl x : Int) + e - 53) (-1074) = last)
    (H48 : Hid (∀ w1, Gr w w1 → Calls Tryd.prog 48 #[.slice ad (n + 1) cap, .int .i64 (last - e)] w1 fun r w' => r = .returned (.int .u64 (N : Int)) ∧ Gr w1 w'))
    (A46 : Hid (∀ w, Calls Tryd.prog 46 #[.float .f64 (floatOfInt FloatKind.f64 (N : Int)), .int .i64 last] w fun e w' => e = .returned (.float .f64 Y) ∧ w' = w)) (hI : pinfB (absN Y) = false) :
    Calls Tryd.prog 22 #[.agg #[.bool true, .slice ad (n + 1) cap, .int .i64 e]] w fun r w' => r = .returned (.tuple #[.float .f64 (copyN Y 13830554455654793216), .int .i64 0]) ∧ Gr w w' := by
  have R := dx.r26
  have hle := dx.le
  have e1 := dx.low
  have e2 := dx.high
  have hbl : bl x ≤ 262144 := by
    obtain ⟨xs, g1, g2⟩ := dx.lim
    have h3 := bl_len g2
    rw [g1.len] at h3
    omega
  have H40 : Hid (∀ w1, Gr w w1 → Calls Tryd.prog 40 #[.slice ad (n + 1) cap] w1 fun r w' => r = .returned (.int .i64 (bl x : Int)) ∧ Gr w1 w') := fun w1 g => bitLength40 ad (n + 1) cap x w1 (dx.lim.gr g) x0 (by omega)
  have z1 : ((n : Int) + 1 == 0) = false := by simp; omega
  have l1 : -1074 ≤ last := by omega
  have l2 : last ≤ 2000000 := by omega
  have HL : Hid (max (IntKind.i64.wrap (IntKind.i64.wrap ((bl x : Int) + e) - 53)) (-1074) = last) := by
    show _ = _
    rw [IntKind.wrap_i64, IntKind.wrap_i64]
    omega
  clear dx hlast
  generalize (bl x : Int) = L at *
  have A44 := fun x w => inf44 x w
  have A49 := fun x y w => copy49 x y w
  go_enter Tryd.func22, Tryd.ntmps22
  go_wp2_with (first | (go_at_call 26; (with_reducible refine (R.out _ ((Gr.refl w).alloc _)).mono ?_); rintro r w1 ⟨rfl, g1⟩; have k0 : w1.cell? ⟨w.heap.size, 0, none⟩ = some (.bool true) := g1.keep (by simp); have k1 : w1.cell? ⟨w.heap.size, 1, none⟩ = some (.slice ad (n + 1) cap) := g1.keep (by simp); have k2 : w1.cell? ⟨w.heap.size, 2, none⟩ = some (.int .i64 e) := g1.keep (by simp); have G1 := ((Gr.refl w).alloc (.cells #[.bool true, .slice ad (n + 1) cap, .int .i64 e] 24)).trans g1))
  have hS0 : (w1.drew.cell? ⟨w.heap.size, 0, none⟩ = some (.bool true) ∧ w1.drew.cell? ⟨w.heap.size, 1, none⟩ = some (.slice ad (n + 1) cap) ∧ w1.drew.cell? ⟨w.heap.size, 2, none⟩ = some (.int .i64 e)) ∧ Gr w w1.drew := ⟨⟨k0, k1, k2⟩, G1.drew⟩
  clear k0 k1 k2 g1 G1
  go_region_held3 (fun w' => (w'.cell? ⟨w.heap.size, 0, none⟩ = some (.bool true) ∧ w'.cell? ⟨w.heap.size, 1, none⟩ = some (.slice ad (n + 1) cap) ∧ w'.cell? ⟨w.heap.size, 2, none⟩ = some (.int .i64 e)) ∧ Gr w w') (first | (with_reducible assumption) | (apply keep4; (with_reducible assumption); (with_reducible assumption))) (first | (go_at_call 40; (with_reducible refine (H40.out _ ?gg).mono ?_); (case gg => exact And.right ‹_ ∧ Gr w _›); rintro r w2 ⟨rfl, g2⟩))
  rw [HL.out]
  have hS1 := keep4 g2 hS0
  clear hS0 g2
  have k0 := hS1.1.1
  have k1 := hS1.1.2.1
  have k2 := hS1.1.2.2
  have G2 := hS1.2
  go_wp2_with (first | (go_at_call 48; (with_reducible refine (H48.out _ G2).mono ?_); rintro r w3 ⟨rfl, g3⟩; have j0 := g3.keep k0) | (go_at_call 46; (with_reducible refine (A46.out _).mono ?_); rintro r w4 ⟨rfl, rfl⟩) | (go_at_call 44; (with_reducible refine (A44 _ _).mono ?_); rintro r w4 ⟨rfl, rfl⟩) | (go_at_call 49; (with_reducible refine (A49 _ _ _).mono ?_); rintro r w4 ⟨rfl, rfl⟩))
  refine bodyPost_ret (v := .tuple #[.float .f64 (copyN Y 13830554455654793216), .int .i64 0]) (by simp [results, Tryd.results22, go_sem]) rfl ⟨rfl, G2.trans g3⟩
set_option maxHeartbeats 3200000 in
theorem float22o (s : Bool) (ad : Option Addr) (n cap x N Y : Nat) (e last : Int) (w : World) (dx : DyAt w s ad (n + 1) cap e x) (x0 : 0 < x) (hlast : max ((bl x : Int) + e - 53) (-1074) = last)
    (H48 : Hid (∀ w1, Gr w w1 → Calls Tryd.prog 48 #[.slice ad (n + 1) cap, .int .i64 (last - e)] w1 fun r w' => r = .returned (.int .u64 (N : Int)) ∧ Gr w1 w'))
    (A46 : Hid (∀ w, Calls Tryd.prog 46 #[.float .f64 (floatOfInt FloatKind.f64 (N : Int)), .int .i64 last] w fun e w' => e = .returned (.float .f64 Y) ∧ w' = w)) (hI : pinfB (absN Y) = true) :
    Calls Tryd.prog 22 #[.agg #[.bool s, .slice ad (n + 1) cap, .int .i64 e]] w fun r w' => r = .returned (.tuple #[.float .f64 0, .int .i64 6]) ∧ Gr w w' := by
  have R := dx.r26
  have hle := dx.le
  have e1 := dx.low
  have e2 := dx.high
  have hbl : bl x ≤ 262144 := by
    obtain ⟨xs, g1, g2⟩ := dx.lim
    have h3 := bl_len g2
    rw [g1.len] at h3
    omega
  have H40 : Hid (∀ w1, Gr w w1 → Calls Tryd.prog 40 #[.slice ad (n + 1) cap] w1 fun r w' => r = .returned (.int .i64 (bl x : Int)) ∧ Gr w1 w') := fun w1 g => bitLength40 ad (n + 1) cap x w1 (dx.lim.gr g) x0 (by omega)
  have z1 : ((n : Int) + 1 == 0) = false := by simp; omega
  have l1 : -1074 ≤ last := by omega
  have l2 : last ≤ 2000000 := by omega
  have HL : Hid (max (IntKind.i64.wrap (IntKind.i64.wrap ((bl x : Int) + e) - 53)) (-1074) = last) := by
    show _ = _
    rw [IntKind.wrap_i64, IntKind.wrap_i64]
    omega
  clear dx hlast
  generalize (bl x : Int) = L at *
  have A44 := fun x w => inf44 x w
  have A49 := fun x y w => copy49 x y w
  go_enter Tryd.func22, Tryd.ntmps22
  go_wp2_with (first | (go_at_call 26; (with_reducible refine (R.out _ ((Gr.refl w).alloc _)).mono ?_); rintro r w1 ⟨rfl, g1⟩; have k0 : w1.cell? ⟨w.heap.size, 0, none⟩ = some (.bool s) := g1.keep (by simp); have k1 : w1.cell? ⟨w.heap.size, 1, none⟩ = some (.slice ad (n + 1) cap) := g1.keep (by simp); have k2 : w1.cell? ⟨w.heap.size, 2, none⟩ = some (.int .i64 e) := g1.keep (by simp); have G1 := ((Gr.refl w).alloc (.cells #[.bool s, .slice ad (n + 1) cap, .int .i64 e] 24)).trans g1))
  have hS0 : (w1.drew.cell? ⟨w.heap.size, 0, none⟩ = some (.bool s) ∧ w1.drew.cell? ⟨w.heap.size, 1, none⟩ = some (.slice ad (n + 1) cap) ∧ w1.drew.cell? ⟨w.heap.size, 2, none⟩ = some (.int .i64 e)) ∧ Gr w w1.drew := ⟨⟨k0, k1, k2⟩, G1.drew⟩
  clear k0 k1 k2 g1 G1
  go_region_held3 (fun w' => (w'.cell? ⟨w.heap.size, 0, none⟩ = some (.bool s) ∧ w'.cell? ⟨w.heap.size, 1, none⟩ = some (.slice ad (n + 1) cap) ∧ w'.cell? ⟨w.heap.size, 2, none⟩ = some (.int .i64 e)) ∧ Gr w w') (first | (with_reducible assumption) | (apply keep4; (with_reducible assumption); (with_reducible assumption))) (first | (go_at_call 40; (with_reducible refine (H40.out _ ?gg).mono ?_); (case gg => exact And.right ‹_ ∧ Gr w _›); rintro r w2 ⟨rfl, g2⟩))
  rw [HL.out]
  have hS1 := keep4 g2 hS0
  clear hS0 g2
  have k0 := hS1.1.1
  have k1 := hS1.1.2.1
  have k2 := hS1.1.2.2
  have G2 := hS1.2
  go_wp2_with (first | (go_at_call 48; (with_reducible refine (H48.out _ G2).mono ?_); rintro r w3 ⟨rfl, g3⟩; have j0 := g3.keep k0) | (go_at_call 46; (with_reducible refine (A46.out _).mono ?_); rintro r w4 ⟨rfl, rfl⟩) | (go_at_call 44; (with_reducible refine (A44 _ _).mono ?_); rintro r w4 ⟨rfl, rfl⟩) | (go_at_call 49; (with_reducible refine (A49 _ _ _).mono ?_); rintro r w4 ⟨rfl, rfl⟩))
  refine bodyPost_ret (v := .tuple #[.float .f64 0, .int .i64 6]) (by simp [results, Tryd.results22, go_sem]) rfl ⟨rfl, G2.trans g3⟩
end Go.Proofs.YtaiflkpanankcaaDoor
