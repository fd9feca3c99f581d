import Derived.Test.YtbkkpbffdnhidaaGreatDoorM30
import Derived.Laws.FloatArith
import Derived.Laws.Entries
namespace Go.Proofs.YtbkkpbffdnhidaaGreatDoor
open Go.RowKit
set_option linter.unusedVariables false

/-- is it rounded up: an odd number over 2 to the power b -/
def upB (x b : Nat) : Bool := bitB x (b - 1) && (decide (1 < b) || decide (x / 2 ^ b % 2 = 1))
/-- one limb, or none -/
theorem lim_head {w : World} {ad : Option Addr} {n cap x : Nat} (h : Lim w ad n cap 18446744073709551616 x) (h1 : x < 18446744073709551616) : (x = 0 ∧ n = 0) ∨ (0 < x ∧ n = 1 ∧ ∃ p o, ad = some ⟨p, o, none⟩ ∧ 1 ≤ cap ∧ cap ≤ 9223372036854775807 ∧ w.cell? ⟨p, o, none⟩ = some (.int .u64 (x : Int))) := by
  by_cases h0 : x = 0
  · subst h0
    obtain ⟨xs, rx, dx⟩ := h
    exact Or.inl ⟨rfl, by rw [← rx.len]; exact (dx.zero_iff (by omega)).2 rfl⟩
  · obtain rfl : n = 1 := lim_one h (by omega) h1
    obtain ⟨xs, rx, dx⟩ := h
    obtain ⟨v, rfl⟩ : ∃ v, xs = [v] := by
      have := rx.len
      match xs, this with
      | [v], _ => exact ⟨v, rfl⟩
    have hv : v = x := by have := dx.1; simpa [nv] using this
    subst hv
    obtain ⟨p1, o1, rfl, hp1, hc1⟩ := rx.cells (by omega)
    have hc0 := hc1 0 (by omega)
    exact Or.inr ⟨by omega, rfl, p1, o1, rfl, rx.le, rx.max, hc0⟩
theorem par_one {v : Nat} (h : v < 18446744073709551616) : (bits BinOp.and IntKind.u64 (v : Int) 1 == 1) = decide (v % 2 = 1) := by
  rw [and_one h]
  by_cases h : v % 2 = 1
  · rw [h]; rfl
  · rw [show v % 2 = 0 by omega]; rfl
set_option maxHeartbeats 3200000 in
theorem nearest48p (ad : Option Addr) (n cap x b : Nat) (w : World) (hx : Lim w ad n cap 18446744073709551616 x) (b1 : n ≤ 1099511627776) (b0 : 0 < b) (hb : b ≤ 1099511627776) (hv : x / 2 ^ b + 1 < 18446744073709551616) :
    Calls Tryz.prog 51 #[.slice ad n cap, .int .i64 (b : Int)] w fun r w' => r = .returned (.int .u64 ((x / 2 ^ b + (upB x b).toNat : Nat) : Int)) ∧ Gr w w' := by
  have H42 : Hid (Calls Tryz.prog 80 #[.slice ad n cap, .int .i64 (-(b : Int))] w fun r w' => ∃ ad' n' cap', r = .returned (.slice ad' n' cap') ∧ ((x / 2 ^ b = 0 ∧ n' = 0) ∨ (0 < x / 2 ^ b ∧ n' = 1 ∧ ∃ p o, ad' = some ⟨p, o, none⟩ ∧ 1 ≤ cap' ∧ cap' ≤ 9223372036854775807 ∧ w'.cell? ⟨p, o, none⟩ = some (.int .u64 ((x / 2 ^ b : Nat) : Int)))) ∧ Gr w w') := by
    refine Calls.mono (shift42n ad n cap x b w hx b1 b0 hb) ?_
    rintro r w' ⟨a, m, c, rfl, h2, h3, h4⟩
    exact ⟨a, m, c, rfl, lim_head h3 (by omega), h4⟩
  have H69 : Hid (∀ w1, Gr w w1 → Calls Tryz.prog 92 #[.slice ad n cap, .int .i64 ((b : Int) - 1)] w1 fun r w' => r = .returned (.bool (bitB x (b - 1))) ∧ w' = w1) := fun w1 g => by
    have := bitAt69 ad n cap x (b - 1) w1 (hx.gr g) b1 (by omega)
    rw [show ((b - 1 : Nat) : Int) = (b : Int) - 1 by omega] at this
    exact this
  clear hx
  unfold upB
  have hpar := par_one (v := x / 2 ^ b) (by omega)
  generalize x / 2 ^ b = v at *
  generalize bitB x (b - 1) = B at *
  have hb0 : (b : Int) > 0 := by omega
  have e1 : ((v + 1 : Nat) : Int) = (v : Int) + 1 := by omega
  have hvz : 0 < v ∨ v = 0 := by omega
  cases B
  · rw [show (v + (false && (decide (1 < b) || decide (v % 2 = 1))).toNat) = v by simp]
    rcases hvz with hv0 | rfl
    · go_enter Tryz.func51, Tryz.ntmps51
      go_wp2_with (first | (go_at_call 80; (with_reducible refine H42.out.mono ?_); rintro r w1 ⟨a1, m1, k1, rfl, hh, g1⟩; obtain ⟨rfl, p, o, rfl, hc1, hc2, hcell⟩ : m1 = 1 ∧ ∃ p o, a1 = some ⟨p, o, none⟩ ∧ 1 ≤ k1 ∧ k1 ≤ 9223372036854775807 ∧ w1.cell? ⟨p, o, none⟩ = some (.int .u64 (v : Int)) := (by rcases hh with ⟨h, _⟩ | ⟨_, h⟩; omega; exact h); clear hh) | (go_at_call 92; (with_reducible refine (H69.out _ g1).mono ?_); rintro r w2 ⟨rfl, rfl⟩))
      go_ret
      exact ⟨rfl, g1⟩
    · go_enter Tryz.func51, Tryz.ntmps51
      go_wp2_with (first | (go_at_call 80; (with_reducible refine H42.out.mono ?_); rintro r w1 ⟨a1, m1, k1, rfl, hh, g1⟩; obtain rfl : m1 = 0 := (by rcases hh with ⟨_, h⟩ | ⟨h, _⟩; exact h; omega); clear hh) | (go_at_call 92; (with_reducible refine (H69.out _ g1).mono ?_); rintro r w2 ⟨rfl, rfl⟩))
      go_ret
      exact ⟨rfl, g1⟩
  · by_cases h1 : 1 < b
    · rw [show (v + (true && (decide (1 < b) || decide (v % 2 = 1))).toNat) = v + 1 by simp [h1]]
      have hb1 : (b : Int) > 1 := by omega
      rw [e1]
      rcases hvz with hv0 | rfl
      · go_enter Tryz.func51, Tryz.ntmps51
        go_wp2_with (first | (go_at_call 80; (with_reducible refine H42.out.mono ?_); rintro r w1 ⟨a1, m1, k1, rfl, hh, g1⟩; obtain ⟨rfl, p, o, rfl, hc1, hc2, hcell⟩ : m1 = 1 ∧ ∃ p o, a1 = some ⟨p, o, none⟩ ∧ 1 ≤ k1 ∧ k1 ≤ 9223372036854775807 ∧ w1.cell? ⟨p, o, none⟩ = some (.int .u64 (v : Int)) := (by rcases hh with ⟨h, _⟩ | ⟨_, h⟩; omega; exact h); clear hh) | (go_at_call 92; (with_reducible refine (H69.out _ g1).mono ?_); rintro r w2 ⟨rfl, rfl⟩))
        go_ret
        exact ⟨rfl, g1⟩
      · go_enter Tryz.func51, Tryz.ntmps51
        go_wp2_with (first | (go_at_call 80; (with_reducible refine H42.out.mono ?_); rintro r w1 ⟨a1, m1, k1, rfl, hh, g1⟩; obtain rfl : m1 = 0 := (by rcases hh with ⟨_, h⟩ | ⟨h, _⟩; exact h; omega); clear hh) | (go_at_call 92; (with_reducible refine (H69.out _ g1).mono ?_); rintro r w2 ⟨rfl, rfl⟩))
        go_ret
        exact ⟨rfl, g1⟩
    · have hb1 : ¬ (b : Int) > 1 := by omega
      by_cases hp : v % 2 = 1
      · rw [show (v + (true && (decide (1 < b) || decide (v % 2 = 1))).toNat) = v + 1 by simp [hp]]
        rw [decide_eq_true hp] at hpar
        rw [e1]
        have hv0 : 0 < v := by omega
        go_enter Tryz.func51, Tryz.ntmps51
        go_wp2_with (first | (go_at_call 80; (with_reducible refine H42.out.mono ?_); rintro r w1 ⟨a1, m1, k1, rfl, hh, g1⟩; obtain ⟨rfl, p, o, rfl, hc1, hc2, hcell⟩ : m1 = 1 ∧ ∃ p o, a1 = some ⟨p, o, none⟩ ∧ 1 ≤ k1 ∧ k1 ≤ 9223372036854775807 ∧ w1.cell? ⟨p, o, none⟩ = some (.int .u64 (v : Int)) := (by rcases hh with ⟨h, _⟩ | ⟨_, h⟩; omega; exact h); clear hh) | (go_at_call 92; (with_reducible refine (H69.out _ g1).mono ?_); rintro r w2 ⟨rfl, rfl⟩))
        go_ret
        exact ⟨rfl, g1⟩
      · rw [show (v + (true && (decide (1 < b) || decide (v % 2 = 1))).toNat) = v by simp [hp, h1]]
        rw [decide_eq_false hp] at hpar
        rcases hvz with hv0 | rfl
        · go_enter Tryz.func51, Tryz.ntmps51
          go_wp2_with (first | (go_at_call 80; (with_reducible refine H42.out.mono ?_); rintro r w1 ⟨a1, m1, k1, rfl, hh, g1⟩; obtain ⟨rfl, p, o, rfl, hc1, hc2, hcell⟩ : m1 = 1 ∧ ∃ p o, a1 = some ⟨p, o, none⟩ ∧ 1 ≤ k1 ∧ k1 ≤ 9223372036854775807 ∧ w1.cell? ⟨p, o, none⟩ = some (.int .u64 (v : Int)) := (by rcases hh with ⟨h, _⟩ | ⟨_, h⟩; omega; exact h); clear hh) | (go_at_call 92; (with_reducible refine (H69.out _ g1).mono ?_); rintro r w2 ⟨rfl, rfl⟩))
          go_ret
          exact ⟨rfl, g1⟩
        · have hz : (bits BinOp.and IntKind.u64 0 1 == 1) = false := by kernel_rfl
          go_enter Tryz.func51, Tryz.ntmps51
          go_wp2_with (first | (go_at_call 80; (with_reducible refine H42.out.mono ?_); rintro r w1 ⟨a1, m1, k1, rfl, hh, g1⟩; obtain rfl : m1 = 0 := (by rcases hh with ⟨_, h⟩ | ⟨h, _⟩; exact h; omega); clear hh) | (go_at_call 92; (with_reducible refine (H69.out _ g1).mono ?_); rintro r w2 ⟨rfl, rfl⟩))
          go_ret
          exact ⟨rfl, g1⟩
end Go.Proofs.YtbkkpbffdnhidaaGreatDoor
namespace Go.Proofs.YtbkkpbffdnhidaaGreatDoor
open Go.RowKit
set_option linter.unusedVariables false

set_option maxHeartbeats 1600000 in
theorem nearest48z (ad : Option Addr) (n cap x k : Nat) (b : Int) (w : World) (hx : Lim w ad n cap 18446744073709551616 x) (b1 : n ≤ 1099511627776) (hb : b = -(k : Int)) (hk : k ≤ 68719476736) (hv : x * 2 ^ k < 18446744073709551616) (x0 : 0 < x) :
    Calls Tryz.prog 51 #[.slice ad n cap, .int .i64 b] w fun r w' => r = .returned (.int .u64 ((x * 2 ^ k : Nat) : Int)) ∧ Gr w w' := by
  have H42 : Hid (Calls Tryz.prog 80 #[.slice ad n cap, .int .i64 (-b)] w fun r w' => ∃ p o cap', r = .returned (.slice (some ⟨p, o, none⟩) 1 cap') ∧ 1 ≤ cap' ∧ cap' ≤ 9223372036854775807 ∧ w'.cell? ⟨p, o, none⟩ = some (.int .u64 ((x * 2 ^ k : Nat) : Int)) ∧ Gr w w') := by
    rw [show -b = (k : Int) by omega]
    refine Calls.mono (shift42 ad n cap x k w hx b1 hk) ?_
    rintro r w' ⟨a, m, c, rfl, h2, h3, h4⟩
    have hp : 0 < x * 2 ^ k := Nat.mul_pos x0 (Nat.two_pow_pos k)
    rcases lim_head h3 hv with ⟨h, _⟩ | ⟨_, rfl, p, o, rfl, h5, h6, h7⟩
    · omega
    · exact ⟨p, o, c, rfl, h5, h6, h7, h4⟩
  have hb0 : ¬ b > 0 := by omega
  have hb1 : -68719476736 ≤ b := by omega
  clear hx hb
  generalize x * 2 ^ k = v at *
  go_enter Tryz.func51, Tryz.ntmps51
  go_wp2_with (go_at_call 80; (with_reducible refine H42.out.mono ?_); rintro r w1 ⟨p, o, c1, rfl, hc, hm, hcell, g1⟩)
  go_ret
  exact ⟨rfl, g1⟩
set_option maxHeartbeats 3200000 in
theorem float22p (ad : Option Addr) (n cap x N Y : Nat) (e last : Int) (w : World) (dx : DyAt w false ad (n + 1) cap e x) (x0 : 0 < x) (hlast : max ((bl x : Int) + e - 53) (-1074) = last)
    (H48 : Hid (∀ w1, Gr w w1 → Calls Tryz.prog 51 #[.slice ad (n + 1) cap, .int .i64 (last - e)] w1 fun r w' => r = .returned (.int .u64 (N : Int)) ∧ Gr w1 w'))
    (A46 : Hid (∀ w, Calls Tryz.prog 50 #[.float .f64 (floatOfInt FloatKind.f64 (N : Int)), .int .i64 last] w fun e w' => e = .returned (.float .f64 Y) ∧ w' = w)) (hI : pinfB (absN Y) = false) :
    Calls Tryz.prog 15 #[.agg #[.bool false, .slice ad (n + 1) cap, .int .i64 e]] w fun r w' => r = .returned (.tuple #[.float .f64 Y, .int .i64 0]) ∧ Gr w w' := by
  have R := dx.r26
  have hle := dx.le
  have e1 := dx.low
  have e2 := dx.high
  have hbl : bl x ≤ 262144 := by
    obtain ⟨xs, g1, g2⟩ := dx.lim
    have h3 := bl_len g2
    rw [g1.len] at h3
    omega
  have H40 : Hid (∀ w1, Gr w w1 → Calls Tryz.prog 49 #[.slice ad (n + 1) cap] w1 fun r w' => r = .returned (.int .i64 (bl x : Int)) ∧ Gr w1 w') := fun w1 g => bitLength40 ad (n + 1) cap x w1 (dx.lim.gr g) x0 (by omega)
  have z1 : ((n : Int) + 1 == 0) = false := by simp; omega
  have l1 : -1074 ≤ last := by omega
  have l2 : last ≤ 2000000 := by omega
  have HL : Hid (max (IntKind.i64.wrap (IntKind.i64.wrap ((bl x : Int) + e) - 53)) (-1074) = last) := by
    show _ = _
    rw [IntKind.wrap_i64, IntKind.wrap_i64]
    omega
  clear dx hlast
  generalize (bl x : Int) = L at *
  have A44 := fun x w => inf44 x w
  have A49 := fun x y w => copy49 x y w
  go_enter Tryz.func15, Tryz.ntmps15
  go_wp2_with (first | (go_at_call 44; (with_reducible refine (R.out _ ((Gr.refl w).alloc _)).mono ?_); rintro r w1 ⟨rfl, g1⟩; have k0 : w1.cell? ⟨w.heap.size, 0, none⟩ = some (.bool false) := g1.keep (by simp); have k1 : w1.cell? ⟨w.heap.size, 1, none⟩ = some (.slice ad (n + 1) cap) := g1.keep (by simp); have k2 : w1.cell? ⟨w.heap.size, 2, none⟩ = some (.int .i64 e) := g1.keep (by simp); have G1 := ((Gr.refl w).alloc (.cells #[.bool false, .slice ad (n + 1) cap, .int .i64 e] 24)).trans g1))
  have hS0 : (w1.drew.cell? ⟨w.heap.size, 0, none⟩ = some (.bool false) ∧ w1.drew.cell? ⟨w.heap.size, 1, none⟩ = some (.slice ad (n + 1) cap) ∧ w1.drew.cell? ⟨w.heap.size, 2, none⟩ = some (.int .i64 e)) ∧ Gr w w1.drew := ⟨⟨k0, k1, k2⟩, G1.drew⟩
  clear k0 k1 k2 g1 G1
  go_region_held3 (fun w' => (w'.cell? ⟨w.heap.size, 0, none⟩ = some (.bool false) ∧ w'.cell? ⟨w.heap.size, 1, none⟩ = some (.slice ad (n + 1) cap) ∧ w'.cell? ⟨w.heap.size, 2, none⟩ = some (.int .i64 e)) ∧ Gr w w') (first | (with_reducible assumption) | (apply keep4; (with_reducible assumption); (with_reducible assumption))) (first | (go_at_call 49; (with_reducible refine (H40.out _ ?gg).mono ?_); (case gg => exact And.right ‹_ ∧ Gr w _›); rintro r w2 ⟨rfl, g2⟩))
  rw [HL.out]
  have hS1 := keep4 g2 hS0
  clear hS0 g2
  have k0 := hS1.1.1
  have k1 := hS1.1.2.1
  have k2 := hS1.1.2.2
  have G2 := hS1.2
  go_wp2_with (first | (go_at_call 51; (with_reducible refine (H48.out _ G2).mono ?_); rintro r w3 ⟨rfl, g3⟩; have j0 := g3.keep k0) | (go_at_call 50; (with_reducible refine (A46.out _).mono ?_); rintro r w4 ⟨rfl, rfl⟩) | (go_at_call 52; (with_reducible refine (A44 _ _).mono ?_); rintro r w4 ⟨rfl, rfl⟩) | (go_at_call 53; (with_reducible refine (A49 _ _ _).mono ?_); rintro r w4 ⟨rfl, rfl⟩))
  refine bodyPost_ret (v := .tuple #[.float .f64 Y, .int .i64 0]) (by simp [results, Tryz.results15, go_sem]) rfl ⟨rfl, G2.trans g3⟩
set_option maxHeartbeats 3200000 in
theorem float22n (ad : Option Addr) (n cap x N Y : Nat) (e last : Int) (w : World) (dx : DyAt w true ad (n + 1) cap e x) (x0 : 0 < x) (hlast : max ((bl x : Int) + e - 53) (-1074) = last)
    (H48 : Hid (∀ w1, Gr w w1 → Calls Tryz.prog 51 #[.slice ad (n + 1) cap, .int .i64 (last - e)] w1 fun r w' => r = .returned (.int .u64 (N : Int)) ∧ Gr w1 w'))
    (A46 : Hid (∀ w, Calls Tryz.prog 50 #[.float .f64 (floatOfInt FloatKind.f64 (N : Int)), .int .i64 last] w fun e w' => e = .returned (.float .f64 Y) ∧ w' = w)) (hI : pinfB (absN Y) = false) :
    Calls Tryz.prog 15 #[.agg #[.bool true, .slice ad (n + 1) cap, .int .i64 e]] w fun r w' => r = .returned (.tuple #[.float .f64 (copyN Y 13830554455654793216), .int .i64 0]) ∧ Gr w w' := by
  have R := dx.r26
  have hle := dx.le
  have e1 := dx.low
  have e2 := dx.high
  have hbl : bl x ≤ 262144 := by
    obtain ⟨xs, g1, g2⟩ := dx.lim
    have h3 := bl_len g2
    rw [g1.len] at h3
    omega
  have H40 : Hid (∀ w1, Gr w w1 → Calls Tryz.prog 49 #[.slice ad (n + 1) cap] w1 fun r w' => r = .returned (.int .i64 (bl x : Int)) ∧ Gr w1 w') := fun w1 g => bitLength40 ad (n + 1) cap x w1 (dx.lim.gr g) x0 (by omega)
  have z1 : ((n : Int) + 1 == 0) = false := by simp; omega
  have l1 : -1074 ≤ last := by omega
  have l2 : last ≤ 2000000 := by omega
  have HL : Hid (max (IntKind.i64.wrap (IntKind.i64.wrap ((bl x : Int) + e) - 53)) (-1074) = last) := by
    show _ = _
    rw [IntKind.wrap_i64, IntKind.wrap_i64]
    omega
  clear dx hlast
  generalize (bl x : Int) = L at *
  have A44 := fun x w => inf44 x w
  have A49 := fun x y w => copy49 x y w
  go_enter Tryz.func15, Tryz.ntmps15
  go_wp2_with (first | (go_at_call 44; (with_reducible refine (R.out _ ((Gr.refl w).alloc _)).mono ?_); rintro r w1 ⟨rfl, g1⟩; have k0 : w1.cell? ⟨w.heap.size, 0, none⟩ = some (.bool true) := g1.keep (by simp); have k1 : w1.cell? ⟨w.heap.size, 1, none⟩ = some (.slice ad (n + 1) cap) := g1.keep (by simp); have k2 : w1.cell? ⟨w.heap.size, 2, none⟩ = some (.int .i64 e) := g1.keep (by simp); have G1 := ((Gr.refl w).alloc (.cells #[.bool true, .slice ad (n + 1) cap, .int .i64 e] 24)).trans g1))
  have hS0 : (w1.drew.cell? ⟨w.heap.size, 0, none⟩ = some (.bool true) ∧ w1.drew.cell? ⟨w.heap.size, 1, none⟩ = some (.slice ad (n + 1) cap) ∧ w1.drew.cell? ⟨w.heap.size, 2, none⟩ = some (.int .i64 e)) ∧ Gr w w1.drew := ⟨⟨k0, k1, k2⟩, G1.drew⟩
  clear k0 k1 k2 g1 G1
  go_region_held3 (fun w' => (w'.cell? ⟨w.heap.size, 0, none⟩ = some (.bool true) ∧ w'.cell? ⟨w.heap.size, 1, none⟩ = some (.slice ad (n + 1) cap) ∧ w'.cell? ⟨w.heap.size, 2, none⟩ = some (.int .i64 e)) ∧ Gr w w') (first | (with_reducible assumption) | (apply keep4; (with_reducible assumption); (with_reducible assumption))) (first | (go_at_call 49; (with_reducible refine (H40.out _ ?gg).mono ?_); (case gg => exact And.right ‹_ ∧ Gr w _›); rintro r w2 ⟨rfl, g2⟩))
  rw [HL.out]
  have hS1 := keep4 g2 hS0
  clear hS0 g2
  have k0 := hS1.1.1
  have k1 := hS1.1.2.1
  have k2 := hS1.1.2.2
  have G2 := hS1.2
  go_wp2_with (first | (go_at_call 51; (with_reducible refine (H48.out _ G2).mono ?_); rintro r w3 ⟨rfl, g3⟩; have j0 := g3.keep k0) | (go_at_call 50; (with_reducible refine (A46.out _).mono ?_); rintro r w4 ⟨rfl, rfl⟩) | (go_at_call 52; (with_reducible refine (A44 _ _).mono ?_); rintro r w4 ⟨rfl, rfl⟩) | (go_at_call 53; (with_reducible refine (A49 _ _ _).mono ?_); rintro r w4 ⟨rfl, rfl⟩))
  refine bodyPost_ret (v := .tuple #[.float .f64 (copyN Y 13830554455654793216), .int .i64 0]) (by simp [results, Tryz.results15, go_sem]) rfl ⟨rfl, G2.trans g3⟩
set_option maxHeartbeats 3200000 in
theorem float22o (s : Bool) (ad : Option Addr) (n cap x N Y : Nat) (e last : Int) (w : World) (dx : DyAt w s ad (n + 1) cap e x) (x0 : 0 < x) (hlast : max ((bl x : Int) + e - 53) (-1074) = last)
    (H48 : Hid (∀ w1, Gr w w1 → Calls Tryz.prog 51 #[.slice ad (n + 1) cap, .int .i64 (last - e)] w1 fun r w' => r = .returned (.int .u64 (N : Int)) ∧ Gr w1 w'))
    (A46 : Hid (∀ w, Calls Tryz.prog 50 #[.float .f64 (floatOfInt FloatKind.f64 (N : Int)), .int .i64 last] w fun e w' => e = .returned (.float .f64 Y) ∧ w' = w)) (hI : pinfB (absN Y) = true) :
    Calls Tryz.prog 15 #[.agg #[.bool s, .slice ad (n + 1) cap, .int .i64 e]] w fun r w' => r = .returned (.tuple #[.float .f64 0, .int .i64 6]) ∧ Gr w w' := by
  have R := dx.r26
  have hle := dx.le
  have e1 := dx.low
  have e2 := dx.high
  have hbl : bl x ≤ 262144 := by
    obtain ⟨xs, g1, g2⟩ := dx.lim
    have h3 := bl_len g2
    rw [g1.len] at h3
    omega
  have H40 : Hid (∀ w1, Gr w w1 → Calls Tryz.prog 49 #[.slice ad (n + 1) cap] w1 fun r w' => r = .returned (.int .i64 (bl x : Int)) ∧ Gr w1 w') := fun w1 g => bitLength40 ad (n + 1) cap x w1 (dx.lim.gr g) x0 (by omega)
  have z1 : ((n : Int) + 1 == 0) = false := by simp; omega
  have l1 : -1074 ≤ last := by omega
  have l2 : last ≤ 2000000 := by omega
  have HL : Hid (max (IntKind.i64.wrap (IntKind.i64.wrap ((bl x : Int) + e) - 53)) (-1074) = last) := by
    show _ = _
    rw [IntKind.wrap_i64, IntKind.wrap_i64]
    omega
  clear dx hlast
  generalize (bl x : Int) = L at *
  have A44 := fun x w => inf44 x w
  have A49 := fun x y w => copy49 x y w
  go_enter Tryz.func15, Tryz.ntmps15
  go_wp2_with (first | (go_at_call 44; (with_reducible refine (R.out _ ((Gr.refl w).alloc _)).mono ?_); rintro r w1 ⟨rfl, g1⟩; have k0 : w1.cell? ⟨w.heap.size, 0, none⟩ = some (.bool s) := g1.keep (by simp); have k1 : w1.cell? ⟨w.heap.size, 1, none⟩ = some (.slice ad (n + 1) cap) := g1.keep (by simp); have k2 : w1.cell? ⟨w.heap.size, 2, none⟩ = some (.int .i64 e) := g1.keep (by simp); have G1 := ((Gr.refl w).alloc (.cells #[.bool s, .slice ad (n + 1) cap, .int .i64 e] 24)).trans g1))
  have hS0 : (w1.drew.cell? ⟨w.heap.size, 0, none⟩ = some (.bool s) ∧ w1.drew.cell? ⟨w.heap.size, 1, none⟩ = some (.slice ad (n + 1) cap) ∧ w1.drew.cell? ⟨w.heap.size, 2, none⟩ = some (.int .i64 e)) ∧ Gr w w1.drew := ⟨⟨k0, k1, k2⟩, G1.drew⟩
  clear k0 k1 k2 g1 G1
  go_region_held3 (fun w' => (w'.cell? ⟨w.heap.size, 0, none⟩ = some (.bool s) ∧ w'.cell? ⟨w.heap.size, 1, none⟩ = some (.slice ad (n + 1) cap) ∧ w'.cell? ⟨w.heap.size, 2, none⟩ = some (.int .i64 e)) ∧ Gr w w') (first | (with_reducible assumption) | (apply keep4; (with_reducible assumption); (with_reducible assumption))) (first | (go_at_call 49; (with_reducible refine (H40.out _ ?gg).mono ?_); (case gg => exact And.right ‹_ ∧ Gr w _›); rintro r w2 ⟨rfl, g2⟩))
  rw [HL.out]
  have hS1 := keep4 g2 hS0
  clear hS0 g2
  have k0 := hS1.1.1
  have k1 := hS1.1.2.1
  have k2 := hS1.1.2.2
  have G2 := hS1.2
  go_wp2_with (first | (go_at_call 51; (with_reducible refine (H48.out _ G2).mono ?_); rintro r w3 ⟨rfl, g3⟩; have j0 := g3.keep k0) | (go_at_call 50; (with_reducible refine (A46.out _).mono ?_); rintro r w4 ⟨rfl, rfl⟩) | (go_at_call 52; (with_reducible refine (A44 _ _).mono ?_); rintro r w4 ⟨rfl, rfl⟩) | (go_at_call 53; (with_reducible refine (A49 _ _ _).mono ?_); rintro r w4 ⟨rfl, rfl⟩))
  refine bodyPost_ret (v := .tuple #[.float .f64 0, .int .i64 6]) (by simp [results, Tryz.results15, go_sem]) rfl ⟨rfl, G2.trans g3⟩
end Go.Proofs.YtbkkpbffdnhidaaGreatDoor
namespace Go.Proofs.YtbkkpbffdnhidaaGreatDoor.Fl
open Ieee

/-- the word of a sign and a rung -/
def W (s : Bool) (r : Nat) : Nat := if s then 9223372036854775808 + r else r
/-- how many places above the least one the last digit of a rung stands -/
def ex (r : Nat) : Nat := r / 4503599627370496 - 1
def mant (r : Nat) : Nat := if r < 4503599627370496 then r else 4503599627370496 + r % 4503599627370496
/-- the size of a rung, in units of the least float -/
def M (r : Nat) : Nat := mant r * 2 ^ ex r

theorem M_at (q f : Nat) (h : (4503599627370496 ≤ f ∧ f ≤ 9007199254740992) ∨ (q = 0 ∧ f ≤ 9007199254740992)) : M (q * 4503599627370496 + f) = f * 2 ^ q := by
  unfold M mant ex
  by_cases h1 : f < 4503599627370496
  · have hq : q = 0 := by omega
    subst hq
    have : (0 * 4503599627370496 + f) / 4503599627370496 - 1 = 0 := by omega
    rw [this, if_pos (by omega)]
    simp
  · by_cases h2 : f < 9007199254740992
    · have e1 : (q * 4503599627370496 + f) / 4503599627370496 - 1 = q := by omega
      have e2 : 4503599627370496 + (q * 4503599627370496 + f) % 4503599627370496 = f := by omega
      rw [e1, if_neg (by omega), e2]
    · have h3 : f = 9007199254740992 := by omega
      subst h3
      have e1 : (q * 4503599627370496 + 9007199254740992) / 4503599627370496 - 1 = q + 1 := by omega
      have e2 : 4503599627370496 + (q * 4503599627370496 + 9007199254740992) % 4503599627370496 = 4503599627370496 := by omega
      rw [e1, if_neg (by omega), e2, Nat.pow_succ]
      omega

theorem rung_parts (r : Nat) : ∃ f, r = ex r * 4503599627370496 + f ∧ mant r = f ∧ ((4503599627370496 ≤ f ∧ f < 9007199254740992) ∨ (ex r = 0 ∧ f < 4503599627370496)) := by
  refine ⟨mant r, ?_, rfl, ?_⟩ <;> unfold mant ex <;> split <;> omega

theorem M_succ (r : Nat) : M (r + 1) = M r + 2 ^ ex r := by
  obtain ⟨f, hr, hm, hf⟩ := rung_parts r
  have h1 : M (r + 1) = (f + 1) * 2 ^ ex r := by
    have : r + 1 = ex r * 4503599627370496 + (f + 1) := by omega
    rw [this]
    exact M_at _ _ (by omega)
  rw [h1]
  unfold M
  rw [hm, Nat.add_mul, Nat.one_mul]

theorem M_lt_succ (r : Nat) : M r < M (r + 1) := by
  rw [M_succ]
  have := Nat.two_pow_pos (ex r)
  omega

theorem M_le_add (r k : Nat) : M r + k ≤ M (r + k) := by
  induction k with
  | zero => simp
  | succ n ih =>
    have h : M (r + n) < M (r + (n + 1)) := M_lt_succ (r + n)
    omega
theorem M_lt {a b : Nat} (h : a < b) : M a < M b := by
  have := M_le_add a (b - a)
  rw [show a + (b - a) = b from by omega] at this
  omega
theorem M_le {a b : Nat} (h : a ≤ b) : M a ≤ M b := by
  rcases Nat.lt_or_eq_of_le h with h | h
  · exact Nat.le_of_lt (M_lt h)
  · rw [h]; exact Nat.le_refl _
theorem M_lt_iff {a b : Nat} : M a < M b ↔ a < b :=
  ⟨fun h => Nat.lt_of_not_le fun h' => absurd (M_le h') (by omega), M_lt⟩
theorem M_inj {a b : Nat} (h : M a = M b) : a = b := by
  rcases Nat.lt_trichotomy a b with h' | h' | h'
  · have := M_lt h'; omega
  · exact h'
  · have := M_lt h'; omega
theorem M_zero : M 0 = 0 := rfl
theorem M_pos {r : Nat} (h : 0 < r) : 0 < M r := by
  have := M_lt h
  rw [M_zero] at this
  exact this

/-- the number of a word, in units of the least float; of an infinity what would come next -/
def val (s : Bool) (r : Nat) : Int := if s then -(M r : Int) else (M r : Int)

theorem word_W (s : Bool) (r : Nat) : double.word s r = W s r := by
  cases s <;> rfl

theorem W_split (x : Nat) (h : x < 18446744073709551616) : ∃ s r, x = W s r ∧ r < 9223372036854775808 := by
  by_cases hx : x < 9223372036854775808
  · exact ⟨false, x, rfl, hx⟩
  · refine ⟨true, x - 9223372036854775808, ?_, by omega⟩
    unfold W
    simp only [if_true]
    omega
theorem W_lt (s : Bool) (r : Nat) (h : r < 9223372036854775808) : W s r < 18446744073709551616 := by
  cases s <;> simp only [W] <;> simp <;> omega

theorem W_sign (s : Bool) (r : Nat) (h : r < 9223372036854775808) : (W s r / 9223372036854775808 % 2 == 1) = s := by
  cases s
  · have : W false r / 9223372036854775808 % 2 = 0 := by unfold W; simp only [Bool.false_eq_true, if_false]; omega
    rw [this]; rfl
  · have : W true r / 9223372036854775808 % 2 = 1 := by unfold W; simp only [if_true]; omega
    rw [this]; rfl
theorem W_rung (s : Bool) (r : Nat) (h : r < 9223372036854775808) : W s r % 9223372036854775808 = r := by
  cases s
  · unfold W; simp only [Bool.false_eq_true, if_false]; omega
  · unfold W; simp only [if_true]; omega

theorem d_sign : double.signWeight = 9223372036854775808 := rfl
theorem d_binade : double.binade = 4503599627370496 := rfl
theorem d_inf : double.infRung = 9218868437227405312 := rfl
theorem d_least : double.leastPlace = -1074 := rfl
theorem d_frac : double.fractionBits = 52 := rfl

theorem read_fin (s : Bool) (r : Nat) (h : r < 9218868437227405312) : double.read (W s r) = .number s (mant r) (-1074 + (ex r : Int)) := by
  unfold Format.read
  rw [d_sign, d_binade, d_inf, d_least, W_sign s r (by omega), W_rung s r (by omega)]
  simp only []
  unfold mant ex
  by_cases h1 : r < 4503599627370496
  · rw [if_pos h1, if_pos h1]
    have : r / 4503599627370496 - 1 = 0 := by omega
    rw [this]; rfl
  · rw [if_neg h1, if_neg h1, if_pos h]
theorem read_inf (s : Bool) : double.read (W s 9218868437227405312) = .infinity s := by
  cases s <;> rfl
theorem read_nanW (s : Bool) (r : Nat) (h : r < 9223372036854775808) (hn : 9218868437227405312 < r) : double.read (W s r) = .nan s (r - 9218868437227405312) := by
  unfold Format.read
  rw [d_sign, d_binade, d_inf, d_least, W_sign s r (by omega), W_rung s r (by omega)]
  simp only []
  rw [if_neg (by omega), if_neg (by omega), if_neg (by omega)]

theorem signed_val (s : Bool) (m u : Nat) : signed s m u = (if s then -((m * 2 ^ u : Nat) : Int) else ((m * 2 ^ u : Nat) : Int)) := by
  unfold signed
  rw [Nat.shiftLeft_eq]

theorem signed_scale (s : Bool) (m u k : Nat) : signed s m (u + k) = signed s m u * ((2 ^ k : Nat) : Int) := by
  rw [signed_val, signed_val, Nat.pow_add, ← Nat.mul_assoc]
  cases s <;> simp [Int.neg_mul]

theorem signed_val_fin (s : Bool) (r : Nat) : signed s (mant r) (ex r) = val s r := by
  rw [signed_val]; rfl

/-- what stands at a common place, brought down to the least one -/
theorem signed_down (s : Bool) (r : Nat) (b : Nat) (h : b ≤ ex r) : signed s (mant r) (ex r - b) * ((2 ^ b : Nat) : Int) = val s r := by
  rw [← signed_scale, Nat.sub_add_cancel h, signed_val_fin]

theorem compare_scale (a b : Int) (k : Nat) (hk : 0 < k) : compare (a * (k : Int)) (b * (k : Int)) = compare a b := by
  have hk' : (0 : Int) < (k : Int) := by omega
  simp only [compare, compareOfLessAndEq]
  by_cases h1 : a < b
  · rw [if_pos h1, if_pos (Int.mul_lt_mul_of_pos_right h1 hk')]
  · rw [if_neg h1, if_neg (fun h => h1 (Int.lt_of_mul_lt_mul_right h (by omega)))]
    by_cases h2 : a = b
    · rw [if_pos h2, if_pos (by rw [h2])]
    · rw [if_neg h2, if_neg (fun h => h2 (Int.eq_of_mul_eq_mul_right (by omega) h))]

theorem order_fin (s t : Bool) (a b : Nat) (ha : a < 9218868437227405312) (hb : b < 9218868437227405312) : double.order (W s a) (W t b) = some (compare (val s a) (val t b)) := by
  unfold Format.order
  rw [read_fin s a ha, read_fin t b hb]
  simp only [Datum.order]
  congr 1
  rw [← signed_down s a (min (ex a) (ex b)) (Nat.min_le_left ..), ← signed_down t b (min (ex a) (ex b)) (Nat.min_le_right ..), compare_scale _ _ _ (Nat.two_pow_pos _)]
  congr 2 <;> omega

theorem compare_lt {a b : Int} (h : a < b) : compare a b = .lt := by
  simp only [compare, compareOfLessAndEq]; rw [if_pos h]
theorem compare_eq {a b : Int} (h : a = b) : compare a b = .eq := by
  subst h; simp [compare, compareOfLessAndEq]
theorem compare_gt {a b : Int} (h : b < a) : compare a b = .gt := by
  simp only [compare, compareOfLessAndEq]; rw [if_neg (by omega), if_neg (by omega)]

theorem order_W (s t : Bool) (a b : Nat) (ha : a ≤ 9218868437227405312) (hb : b ≤ 9218868437227405312) : double.order (W s a) (W t b) = some (compare (val s a) (val t b)) := by
  by_cases h1 : a < 9218868437227405312
  · by_cases h2 : b < 9218868437227405312
    · exact order_fin s t a b h1 h2
    · have hb' : b = 9218868437227405312 := by omega
      subst hb'
      unfold Format.order
      rw [read_fin s a h1, read_inf]
      simp only [Datum.order]
      congr 1
      have := M_lt h1
      cases t
      · exact (compare_lt (by unfold val; cases s <;> simp <;> omega)).symm
      · exact (compare_gt (by unfold val; cases s <;> simp <;> omega)).symm
  · have ha' : a = 9218868437227405312 := by omega
    subst ha'
    by_cases h2 : b < 9218868437227405312
    · unfold Format.order
      rw [read_fin t b h2, read_inf]
      simp only [Datum.order]
      congr 1
      have := M_lt h2
      cases s
      · exact (compare_gt (by unfold val; cases t <;> simp <;> omega)).symm
      · exact (compare_lt (by unfold val; cases t <;> simp <;> omega)).symm
    · have hb' : b = 9218868437227405312 := by omega
      subst hb'
      unfold Format.order
      rw [read_inf, read_inf]
      simp only [Datum.order]
      congr 1
      have := M_pos (r := 9218868437227405312) (by omega)
      cases s <;> cases t
      · exact (compare_eq rfl).symm
      · exact (compare_gt (by unfold val; simp; omega)).symm
      · exact (compare_lt (by unfold val; simp; omega)).symm
      · exact (compare_eq rfl).symm

theorem order_nan_left (s : Bool) (r : Nat) (y : Nat) (h : r < 9223372036854775808) (hn : 9218868437227405312 < r) : double.order (W s r) y = none := by
  unfold Format.order
  rw [read_nanW s r h hn]
  rfl
theorem order_nan_right (s : Bool) (r : Nat) (y : Nat) (h : r < 9223372036854775808) (hn : 9218868437227405312 < r) : double.order y (W s r) = none := by
  unfold Format.order
  rw [read_nanW s r h hn]
  cases double.read y <;> rfl
end Go.Proofs.YtbkkpbffdnhidaaGreatDoor.Fl
namespace Go.Proofs.YtbkkpbffdnhidaaGreatDoor.Fl
open Ieee

theorem lt_log2 (n : Nat) : n < 2 ^ (n.log2 + 1) := Nat.lt_log2_self
theorem gap_min (n drop : Nat) : n / (1 <<< min drop (n.log2 + 2)) = n / 2 ^ drop ∧ (drop ≤ n.log2 + 2 ∨ (n / 2 ^ drop = 0 ∧ 2 * (n % (1 <<< min drop (n.log2 + 2))) < 1 <<< min drop (n.log2 + 2) ∧ n % 2 ^ drop = n ∧ 2 * n < 2 ^ drop)) := by
  rw [Nat.shiftLeft_eq, Nat.one_mul]
  by_cases h : drop ≤ n.log2 + 2
  · rw [Nat.min_eq_left h]
    exact ⟨rfl, Or.inl h⟩
  · rw [Nat.min_eq_right (by omega)]
    have h1 := lt_log2 n
    have h2 : (2 : Nat) ^ (n.log2 + 2) = 2 * 2 ^ (n.log2 + 1) := by rw [Nat.pow_succ (m := n.log2 + 1)]; omega
    have h3 : (2 : Nat) ^ (n.log2 + 2) ≤ 2 ^ drop := Nat.pow_le_pow_right (by omega) (by omega)
    have h4 : n / 2 ^ drop = 0 := Nat.div_eq_of_lt (by omega)
    refine ⟨by rw [h4]; exact Nat.div_eq_of_lt (by omega), Or.inr ⟨h4, ?_, Nat.mod_eq_of_lt (by omega), by omega⟩⟩
    rw [Nat.mod_eq_of_lt (by omega)]
    omega

/-- cut towards zero -/
theorem cut_zero (neg : Bool) (n drop : Nat) : Toward.zero.cut neg n drop = n / 2 ^ drop := by
  unfold Toward.cut
  simp only []
  rw [(gap_min n drop).1]
  simp

/-- to the nearest, of two the even one -/
def evenUp (low rest gap : Nat) : Bool := gap < 2 * rest || (gap == 2 * rest && low % 2 == 1)
theorem cut_even (neg : Bool) (n drop : Nat) : Toward.even.cut neg n drop = n / 2 ^ drop + (evenUp (n / 2 ^ drop) (n % 2 ^ drop) (2 ^ drop)).toNat := by
  unfold Toward.cut
  simp only []
  rw [(gap_min n drop).1]
  congr 2
  unfold evenUp
  rcases (gap_min n drop).2 with h | ⟨h1, h2, h3, h4⟩
  · rw [Nat.shiftLeft_eq, Nat.one_mul, Nat.min_eq_left h]
  · rw [h1, h3]
    have e1 : decide (1 <<< min drop (n.log2 + 2) < 2 * (n % (1 <<< min drop (n.log2 + 2)))) = false := decide_eq_false (by omega)
    have e2 : decide (2 ^ drop < 2 * n) = false := decide_eq_false (by omega)
    rw [e1, e2]
    simp

theorem cut_even_or (neg : Bool) (n drop : Nat) : Toward.even.cut neg n drop = n / 2 ^ drop ∨ (Toward.even.cut neg n drop = n / 2 ^ drop + 1 ∧ n % 2 ^ drop ≠ 0) := by
  rw [cut_even]
  cases h : evenUp (n / 2 ^ drop) (n % 2 ^ drop) (2 ^ drop)
  · left; rfl
  · right
    refine ⟨rfl, fun h0 => ?_⟩
    unfold evenUp at h
    rw [h0] at h
    simp at h

/-- THE NEAREST WORD: of what lies from the rung r on and below the next one, one of both; of what is the rung's own, it. 'k' places below the least one. -/
theorem nearest_faithful (neg : Bool) (mag : Nat) (place : Int) (k : Nat) (hk : 0 ≤ place + 1074 + k) :
    ∃ r c, M r * 2 ^ k ≤ mag * 2 ^ (place + 1074 + k).toNat ∧ mag * 2 ^ (place + 1074 + k).toNat < M (r + 1) * 2 ^ k ∧
      double.nearest neg mag place = W neg (min c 9218868437227405312) ∧ (c = r ∨ (c = r + 1 ∧ mag * 2 ^ (place + 1074 + k).toNat ≠ M r * 2 ^ k)) := by
  by_cases h0 : mag = 0
  · subst h0
    refine ⟨0, 0, by rw [M_zero]; simp, ?_, ?_, Or.inl rfl⟩
    · have : 0 < M (0 + 1) * 2 ^ k := Nat.mul_pos (M_pos (by omega)) (Nat.two_pow_pos _)
      omega
    · unfold Format.nearest
      rw [if_pos rfl, word_W, Nat.zero_min]
  unfold Format.nearest
  rw [if_neg h0, d_frac, d_least, d_binade, d_inf]
  simp only []
  obtain ⟨q, hq⟩ : ∃ q : Nat, max (place + (mag.log2 : Int) - (52 : Nat)) (-1074) = (q : Int) - 1074 := ⟨(max (place + (mag.log2 : Int) - (52 : Nat)) (-1074) + 1074).toNat, by omega⟩
  rw [hq]
  have e0 : ((q : Int) - 1074 - -1074).toNat = q := by omega
  rw [e0, Nat.shiftLeft_eq, word_W]
  generalize hn : mag * 2 ^ (place - ((q : Int) - 1074)).toNat = n
  generalize hd : ((q : Int) - 1074 - place).toNat = d
  -- the exact size, at the place k below: n at q, cut by d
  have hN : mag * 2 ^ (place + 1074 + k).toNat * 2 ^ d = n * 2 ^ (q + k) := by
    rw [← hn, Nat.mul_assoc, Nat.mul_assoc, ← Nat.pow_add, ← Nat.pow_add]
    congr 2
    omega
  have hlog := lt_log2 mag
  have hlog' := Nat.log2_self_le h0
  -- the floor
  have hf : (4503599627370496 ≤ n / 2 ^ d ∧ n / 2 ^ d + 1 ≤ 9007199254740992) ∨ (q = 0 ∧ n / 2 ^ d + 1 ≤ 9007199254740992) := by
    have hup : n / 2 ^ d < 9007199254740992 := by
      rw [Nat.div_lt_iff_lt_mul (Nat.two_pow_pos _)]
      have h1 : n < 2 ^ (mag.log2 + 1) * 2 ^ (place - ((q : Int) - 1074)).toNat := by
        rw [← hn]; exact Nat.mul_lt_mul_of_pos_right hlog (Nat.two_pow_pos _)
      rw [← Nat.pow_add] at h1
      refine Nat.lt_of_lt_of_le h1 ?_
      rw [show (9007199254740992 : Nat) = 2 ^ 53 from rfl, ← Nat.pow_add]
      exact Nat.pow_le_pow_right (by omega) (by omega)
    by_cases hq0 : q = 0
    · exact Or.inr ⟨hq0, by omega⟩
    · left
      refine ⟨?_, by omega⟩
      rw [Nat.le_div_iff_mul_le (Nat.two_pow_pos _), ← hn]
      refine Nat.le_trans ?_ (Nat.mul_le_mul_right _ hlog')
      rw [show (4503599627370496 : Nat) = 2 ^ 52 from rfl, ← Nat.pow_add, ← Nat.pow_add]
      exact Nat.pow_le_pow_right (by omega) (by omega)
  have hM0 : M (q * 4503599627370496 + n / 2 ^ d) = n / 2 ^ d * 2 ^ q := M_at _ _ (by omega)
  have hM1 : M (q * 4503599627370496 + n / 2 ^ d + 1) = (n / 2 ^ d + 1) * 2 ^ q := by
    rw [Nat.add_assoc]; exact M_at _ _ (by omega)
  have hpd := Nat.two_pow_pos d
  have hpq : 0 < 2 ^ (q + k) := Nat.two_pow_pos _
  refine ⟨q * 4503599627370496 + n / 2 ^ d, q * 4503599627370496 + Toward.even.cut neg n d, ?_, ?_, rfl, ?_⟩
  · rw [hM0]
    refine Nat.le_of_mul_le_mul_right (c := 2 ^ d) ?_ hpd
    rw [hN, Nat.mul_assoc (n / 2 ^ d), ← Nat.pow_add, Nat.mul_right_comm]
    exact Nat.mul_le_mul_right _ (Nat.div_mul_le_self n (2 ^ d))
  · rw [hM1]
    refine Nat.lt_of_mul_lt_mul_right (a := 2 ^ d) ?_
    rw [hN, Nat.mul_assoc (n / 2 ^ d + 1), ← Nat.pow_add, Nat.mul_right_comm]
    refine Nat.mul_lt_mul_of_pos_right ?_ hpq
    have := Nat.div_add_mod n (2 ^ d)
    have := Nat.mod_lt n hpd
    rw [Nat.add_mul, Nat.one_mul, Nat.mul_comm (n / 2 ^ d)]
    omega
  · rcases cut_even_or neg n d with h | ⟨h, hr⟩
    · left; rw [h]
    · right
      refine ⟨by rw [h]; omega, fun he => hr ?_⟩
      rw [hM0] at he
      have he' := congrArg (· * 2 ^ d) he
      rw [hN, Nat.mul_assoc (n / 2 ^ d), ← Nat.pow_add, Nat.mul_right_comm] at he'
      have h5 := Nat.eq_of_mul_eq_mul_right hpq he'
      have := Nat.div_add_mod n (2 ^ d)
      rw [Nat.mul_comm (2 ^ d)] at this
      omega

/-- what has a rung of its own is told by it -/
theorem nearest_exact (neg : Bool) (mag : Nat) (place : Int) (k r : Nat) (hk : 0 ≤ place + 1074 + k) (hr : r ≤ 9218868437227405312) (h : mag * 2 ^ (place + 1074 + k).toNat = M r * 2 ^ k) :
    double.nearest neg mag place = W neg r := by
  obtain ⟨r0, c, h1, h2, h3, h4⟩ := nearest_faithful neg mag place k hk
  rw [h] at h1 h2 h4
  have hp := Nat.two_pow_pos k
  have e1 : M r0 ≤ M r := Nat.le_of_mul_le_mul_right h1 hp
  have e2 : M r < M (r0 + 1) := Nat.lt_of_mul_lt_mul_right h2
  have e3 : r0 ≤ r := Nat.le_of_not_lt fun hlt => by have := M_lt hlt; omega
  have e4 : r < r0 + 1 := M_lt_iff.1 e2
  have e5 : r0 = r := by omega
  subst e5
  rcases h4 with h4 | h4
  · rw [h3, h4, Nat.min_eq_left hr]
  · exact absurd rfl h4.2

/-- numbers of at most 53 bits have rungs -/
theorem rep (j : Nat) : ∀ k : Nat, k ≤ 9007199254740992 → ∃ r, M r = k * 2 ^ j ∧ r ≤ (j + 2) * 4503599627370496 := by
  induction j with
  | zero =>
    intro k hk
    refine ⟨k, ?_, by omega⟩
    have := M_at 0 k (Or.inr ⟨rfl, hk⟩)
    rw [Nat.zero_mul, Nat.zero_add] at this
    exact this
  | succ j ih =>
    intro k hk
    by_cases h : k < 4503599627370496
    · obtain ⟨r, h1, h2⟩ := ih (2 * k) (by omega)
      refine ⟨r, ?_, Nat.le_trans h2 (Nat.mul_le_mul_right _ (by omega))⟩
      rw [h1, Nat.pow_succ, Nat.mul_comm (2 ^ j) 2, ← Nat.mul_assoc, Nat.mul_comm k 2]
    · exact ⟨(j + 1) * 4503599627370496 + k, M_at _ _ (Or.inl ⟨by omega, hk⟩), by omega⟩
end Go.Proofs.YtbkkpbffdnhidaaGreatDoor.Fl
