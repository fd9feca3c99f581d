import Derived.Test.YtnmdnhmfmahjaaaGreatDoorM09
namespace Go.Proofs.YtnmdnhmfmahjaaaGreatDoor
open Go.RowKit
set_option linter.unusedVariables false

theorem ret_bool' {a b : Bool} (h : a = b) : Ending.returned (.bool a) = .returned (.bool b) := by rw [h]
def bitB (x p : Nat) : Bool := decide (x / 2 ^ p % 2 = 1)
theorem bit_of {x q r : Nat} {xs : List Nat} (h : Dg 18446744073709551616 x xs) (hq : q < xs.length) (hr : r < 64) : x / 2 ^ (64 * q + r) % 2 = xs.getD q 0 / 2 ^ r % 2 := by
  have h1 := nv_split 18446744073709551616 xs q hq
  rw [h.1] at h1
  have hlt : nv 18446744073709551616 (xs.take q) < 18446744073709551616 ^ q := by
    have := nv_lt 18446744073709551616 (xs.take q) (fun y hy => h.2.1 y (List.mem_of_mem_take hy))
    rwa [List.length_take, Nat.min_eq_left (by omega)] at this
  have h2 : x / 18446744073709551616 ^ q = xs.getD q 0 + 18446744073709551616 * nv 18446744073709551616 (xs.drop (q + 1)) := by
    rw [h1, Nat.add_mul_div_left _ _ (Nat.pow_pos (by omega)), Nat.div_eq_of_lt hlt, Nat.zero_add]
  rw [Nat.pow_add, ← Nat.div_div_eq_div_mul, ← pow64, h2]
  generalize xs.getD q 0 = v
  generalize nv 18446744073709551616 (xs.drop (q + 1)) = T
  have e : 18446744073709551616 * T = 2 ^ r * (2 * (2 ^ (63 - r) * T)) := by
    rw [two64 hr, show 64 - r = 63 - r + 1 by omega, Nat.pow_succ]; ac_rfl
  rw [e, Nat.add_mul_div_left _ _ (Nat.two_pow_pos r)]
  omega
set_option maxHeartbeats 1600000 in
theorem bitAt69 (ad : Option Addr) (n cap x p : Nat) (w : World) (hx : Lim w ad n cap 18446744073709551616 x) (hn : n ≤ 1099511627776) (hp : p ≤ 1099511627776) :
    Calls Tryz.prog 70 #[.slice ad n cap, .int .i64 (p : Int)] w fun r w' => r = .returned (.bool (bitB x p)) ∧ w' = w := by
  obtain ⟨xs, rx, dx⟩ := hx
  have hle := rx.le
  have hmax := rx.max
  obtain ⟨q, hq⟩ : ∃ q, q = p / 64 := ⟨_, rfl⟩
  obtain ⟨r, hr⟩ : ∃ r, r = p % 64 := ⟨_, rfl⟩
  have hr64 : r < 64 := by omega
  have HN : Hid (p = 64 * q + r) := by show _ = _; omega
  have eq : (p : Int) / 64 = (q : Int) := by omega
  have er : (p : Int) % 64 = (r : Int) := by omega
  clear hq hr
  by_cases hbig : n ≤ q
  · have fin : Hid (bitB x p = false) := by
      show _ = _
      have h1 := dx.upper
      rw [rx.len, pow64] at h1
      have : x / 2 ^ p = 0 := Nat.div_eq_of_lt (Nat.lt_of_lt_of_le h1 (Nat.pow_le_pow_right (by omega) (by have := HN.out; omega)))
      unfold bitB
      rw [this]; rfl
    have hb : ¬ (q : Int) < (n : Int) := by omega
    rw [fin.out]
    clear rx dx
    go_enter Tryz.func70, Tryz.ntmps70
    go_wp2
    go_ret
    exact ⟨rfl, rfl⟩
  · obtain ⟨p1, o1, rfl, hp1, hc1⟩ := rx.lt (by omega)
    have hcell := hc1 w (Gr.refl w) q (by omega)
    have fin : Hid (bitB x p = decide (xs.getD q 0 / 2 ^ r % 2 = 1)) := by
      show _ = _
      unfold bitB
      rw [HN.out, bit_of dx (by rw [rx.len]; omega) hr64]
    have hb : (q : Int) < (n : Int) := by omega
    have hv := getD_lt (by omega) dx.2.1 q
    rw [fin.out]
    clear rx dx hc1
    generalize xs.getD q 0 = v at *
    go_enter Tryz.func70, Tryz.ntmps70
    go_wp2_with (simp only [er])
    go_ret
    refine ⟨ret_bool' ?_, rfl⟩
    rw [show (v : Int) / 2 ^ r = ((v / 2 ^ r : Nat) : Int) by simp, and_one (Nat.lt_of_le_of_lt (Nat.div_le_self _ _) hv)]
    by_cases h : v / 2 ^ r % 2 = 1
    · rw [h]; rfl
    · rw [show v / 2 ^ r % 2 = 0 by omega]; rfl
set_option maxHeartbeats 1600000 in
theorem shift42n (ad : Option Addr) (n cap x b : Nat) (w : World) (hx : Lim w ad n cap 18446744073709551616 x) (b1 : n ≤ 1099511627776) (b0 : 0 < b) (hb : b ≤ 1099511627776) :
    Calls Tryz.prog 46 #[.slice ad n cap, .int .i64 (-(b : Int))] w fun e w' => ∃ ad' n' cap', e = .returned (.slice ad' n' cap') ∧ n' ≤ n ∧ Lim w' ad' n' cap' 18446744073709551616 (x / 2 ^ b) ∧ Gr w w' := by
  have H : Hid (Calls Tryz.prog 39 #[.slice ad n cap, .int .i64 (b : Int)] w fun e w' => ∃ ad' n' cap', e = .returned (.slice ad' n' cap') ∧ n' ≤ n ∧ Lim w' ad' n' cap' 18446744073709551616 (x / 2 ^ b) ∧ Gr w w') := shiftDown37 ad n cap x b w hx b1 (by omega)
  have h0 : -(b : Int) < 0 := by omega
  clear hx
  go_enter Tryz.func46, Tryz.ntmps46
  go_wp2_with (go_at_call 39; (with_reducible refine H.out.mono ?_); rintro r w3 ⟨a3, n3, c3, rfl, hn3, hl3, g3⟩)
  go_ret
  exact ⟨_, _, _, rfl, hn3, hl3, g3⟩
end Go.Proofs.YtnmdnhmfmahjaaaGreatDoor
namespace Go.Proofs.YtnmdnhmfmahjaaaGreatDoor
open Go.RowKit
set_option linter.unusedVariables false

/-- is it rounded up: an odd number over 2 to the power b -/
def upB (x b : Nat) : Bool := bitB x (b - 1) && (decide (1 < b) || decide (x / 2 ^ b % 2 = 1))
/-- one limb, or none -/
theorem lim_head {w : World} {ad : Option Addr} {n cap x : Nat} (h : Lim w ad n cap 18446744073709551616 x) (h1 : x < 18446744073709551616) : (x = 0 ∧ n = 0) ∨ (0 < x ∧ n = 1 ∧ ∃ p o, ad = some ⟨p, o, none⟩ ∧ 1 ≤ cap ∧ cap ≤ 9223372036854775807 ∧ w.cell? ⟨p, o, none⟩ = some (.int .u64 (x : Int))) := by
  by_cases h0 : x = 0
  · subst h0
    obtain ⟨xs, rx, dx⟩ := h
    exact Or.inl ⟨rfl, by rw [← rx.len]; exact (dx.zero_iff (by omega)).2 rfl⟩
  · obtain rfl : n = 1 := lim_one h (by omega) h1
    obtain ⟨xs, rx, dx⟩ := h
    obtain ⟨v, rfl⟩ : ∃ v, xs = [v] := by
      have := rx.len
      match xs, this with
      | [v], _ => exact ⟨v, rfl⟩
    have hv : v = x := by have := dx.1; simpa [nv] using this
    subst hv
    obtain ⟨p1, o1, rfl, hp1, hc1⟩ := rx.cells (by omega)
    have hc0 := hc1 0 (by omega)
    exact Or.inr ⟨by omega, rfl, p1, o1, rfl, rx.le, rx.max, hc0⟩
theorem par_one {v : Nat} (h : v < 18446744073709551616) : (bits BinOp.and IntKind.u64 (v : Int) 1 == 1) = decide (v % 2 = 1) := by
  rw [and_one h]
  by_cases h : v % 2 = 1
  · rw [h]; rfl
  · rw [show v % 2 = 0 by omega]; rfl
set_option maxHeartbeats 3200000 in
theorem nearest48p (ad : Option Addr) (n cap x b : Nat) (w : World) (hx : Lim w ad n cap 18446744073709551616 x) (b1 : n ≤ 1099511627776) (b0 : 0 < b) (hb : b ≤ 1099511627776) (hv : x / 2 ^ b + 1 < 18446744073709551616) :
    Calls Tryz.prog 30 #[.slice ad n cap, .int .i64 (b : Int)] w fun r w' => r = .returned (.int .u64 ((x / 2 ^ b + (upB x b).toNat : Nat) : Int)) ∧ Gr w w' := by
  have H42 : Hid (Calls Tryz.prog 46 #[.slice ad n cap, .int .i64 (-(b : Int))] w fun r w' => ∃ ad' n' cap', r = .returned (.slice ad' n' cap') ∧ ((x / 2 ^ b = 0 ∧ n' = 0) ∨ (0 < x / 2 ^ b ∧ n' = 1 ∧ ∃ p o, ad' = some ⟨p, o, none⟩ ∧ 1 ≤ cap' ∧ cap' ≤ 9223372036854775807 ∧ w'.cell? ⟨p, o, none⟩ = some (.int .u64 ((x / 2 ^ b : Nat) : Int)))) ∧ Gr w w') := by
    refine Calls.mono (shift42n ad n cap x b w hx b1 b0 hb) ?_
    rintro r w' ⟨a, m, c, rfl, h2, h3, h4⟩
    exact ⟨a, m, c, rfl, lim_head h3 (by omega), h4⟩
  have H69 : Hid (∀ w1, Gr w w1 → Calls Tryz.prog 70 #[.slice ad n cap, .int .i64 ((b : Int) - 1)] w1 fun r w' => r = .returned (.bool (bitB x (b - 1))) ∧ w' = w1) := fun w1 g => by
    have := bitAt69 ad n cap x (b - 1) w1 (hx.gr g) b1 (by omega)
    rw [show ((b - 1 : Nat) : Int) = (b : Int) - 1 by omega] at this
    exact this
  clear hx
  unfold upB
  have hpar := par_one (v := x / 2 ^ b) (by omega)
  generalize x / 2 ^ b = v at *
  generalize bitB x (b - 1) = B at *
  have hb0 : (b : Int) > 0 := by omega
  have e1 : ((v + 1 : Nat) : Int) = (v : Int) + 1 := by omega
  have hvz : 0 < v ∨ v = 0 := by omega
  cases B
  · rw [show (v + (false && (decide (1 < b) || decide (v % 2 = 1))).toNat) = v by simp]
    rcases hvz with hv0 | rfl
    · go_enter Tryz.func30, Tryz.ntmps30
      go_wp2_with (first | (go_at_call 46; (with_reducible refine H42.out.mono ?_); rintro r w1 ⟨a1, m1, k1, rfl, hh, g1⟩; obtain ⟨rfl, p, o, rfl, hc1, hc2, hcell⟩ : m1 = 1 ∧ ∃ p o, a1 = some ⟨p, o, none⟩ ∧ 1 ≤ k1 ∧ k1 ≤ 9223372036854775807 ∧ w1.cell? ⟨p, o, none⟩ = some (.int .u64 (v : Int)) := (by rcases hh with ⟨h, _⟩ | ⟨_, h⟩; omega; exact h); clear hh) | (go_at_call 70; (with_reducible refine (H69.out _ g1).mono ?_); rintro r w2 ⟨rfl, rfl⟩))
      go_ret
      exact ⟨rfl, g1⟩
    · go_enter Tryz.func30, Tryz.ntmps30
      go_wp2_with (first | (go_at_call 46; (with_reducible refine H42.out.mono ?_); rintro r w1 ⟨a1, m1, k1, rfl, hh, g1⟩; obtain rfl : m1 = 0 := (by rcases hh with ⟨_, h⟩ | ⟨h, _⟩; exact h; omega); clear hh) | (go_at_call 70; (with_reducible refine (H69.out _ g1).mono ?_); rintro r w2 ⟨rfl, rfl⟩))
      go_ret
      exact ⟨rfl, g1⟩
  · by_cases h1 : 1 < b
    · rw [show (v + (true && (decide (1 < b) || decide (v % 2 = 1))).toNat) = v + 1 by simp [h1]]
      have hb1 : (b : Int) > 1 := by omega
      rw [e1]
      rcases hvz with hv0 | rfl
      · go_enter Tryz.func30, Tryz.ntmps30
        go_wp2_with (first | (go_at_call 46; (with_reducible refine H42.out.mono ?_); rintro r w1 ⟨a1, m1, k1, rfl, hh, g1⟩; obtain ⟨rfl, p, o, rfl, hc1, hc2, hcell⟩ : m1 = 1 ∧ ∃ p o, a1 = some ⟨p, o, none⟩ ∧ 1 ≤ k1 ∧ k1 ≤ 9223372036854775807 ∧ w1.cell? ⟨p, o, none⟩ = some (.int .u64 (v : Int)) := (by rcases hh with ⟨h, _⟩ | ⟨_, h⟩; omega; exact h); clear hh) | (go_at_call 70; (with_reducible refine (H69.out _ g1).mono ?_); rintro r w2 ⟨rfl, rfl⟩))
        go_ret
        exact ⟨rfl, g1⟩
      · go_enter Tryz.func30, Tryz.ntmps30
        go_wp2_with (first | (go_at_call 46; (with_reducible refine H42.out.mono ?_); rintro r w1 ⟨a1, m1, k1, rfl, hh, g1⟩; obtain rfl : m1 = 0 := (by rcases hh with ⟨_, h⟩ | ⟨h, _⟩; exact h; omega); clear hh) | (go_at_call 70; (with_reducible refine (H69.out _ g1).mono ?_); rintro r w2 ⟨rfl, rfl⟩))
        go_ret
        exact ⟨rfl, g1⟩
    · have hb1 : ¬ (b : Int) > 1 := by omega
      by_cases hp : v % 2 = 1
      · rw [show (v + (true && (decide (1 < b) || decide (v % 2 = 1))).toNat) = v + 1 by simp [hp]]
        rw [decide_eq_true hp] at hpar
        rw [e1]
        have hv0 : 0 < v := by omega
        go_enter Tryz.func30, Tryz.ntmps30
        go_wp2_with (first | (go_at_call 46; (with_reducible refine H42.out.mono ?_); rintro r w1 ⟨a1, m1, k1, rfl, hh, g1⟩; obtain ⟨rfl, p, o, rfl, hc1, hc2, hcell⟩ : m1 = 1 ∧ ∃ p o, a1 = some ⟨p, o, none⟩ ∧ 1 ≤ k1 ∧ k1 ≤ 9223372036854775807 ∧ w1.cell? ⟨p, o, none⟩ = some (.int .u64 (v : Int)) := (by rcases hh with ⟨h, _⟩ | ⟨_, h⟩; omega; exact h); clear hh) | (go_at_call 70; (with_reducible refine (H69.out _ g1).mono ?_); rintro r w2 ⟨rfl, rfl⟩))
        go_ret
        exact ⟨rfl, g1⟩
      · rw [show (v + (true && (decide (1 < b) || decide (v % 2 = 1))).toNat) = v by simp [hp, h1]]
        rw [decide_eq_false hp] at hpar
        rcases hvz with hv0 | rfl
        · go_enter Tryz.func30, Tryz.ntmps30
          go_wp2_with (first | (go_at_call 46; (with_reducible refine H42.out.mono ?_); rintro r w1 ⟨a1, m1, k1, rfl, hh, g1⟩; obtain ⟨rfl, p, o, rfl, hc1, hc2, hcell⟩ : m1 = 1 ∧ ∃ p o, a1 = some ⟨p, o, none⟩ ∧ 1 ≤ k1 ∧ k1 ≤ 9223372036854775807 ∧ w1.cell? ⟨p, o, none⟩ = some (.int .u64 (v : Int)) := (by rcases hh with ⟨h, _⟩ | ⟨_, h⟩; omega; exact h); clear hh) | (go_at_call 70; (with_reducible refine (H69.out _ g1).mono ?_); rintro r w2 ⟨rfl, rfl⟩))
          go_ret
          exact ⟨rfl, g1⟩
        · have hz : (bits BinOp.and IntKind.u64 0 1 == 1) = false := by kernel_rfl
          go_enter Tryz.func30, Tryz.ntmps30
          go_wp2_with (first | (go_at_call 46; (with_reducible refine H42.out.mono ?_); rintro r w1 ⟨a1, m1, k1, rfl, hh, g1⟩; obtain rfl : m1 = 0 := (by rcases hh with ⟨_, h⟩ | ⟨h, _⟩; exact h; omega); clear hh) | (go_at_call 70; (with_reducible refine (H69.out _ g1).mono ?_); rintro r w2 ⟨rfl, rfl⟩))
          go_ret
          exact ⟨rfl, g1⟩
end Go.Proofs.YtnmdnhmfmahjaaaGreatDoor
