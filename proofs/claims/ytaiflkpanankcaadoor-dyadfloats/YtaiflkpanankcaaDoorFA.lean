import Derived.Test.YtaiflkpanankcaaDoorXR
namespace Go.Proofs.YtaiflkpanankcaaDoor
open Go.RowKit
set_option linter.unusedVariables false

theorem ret_bool' {a b : Bool} (h : a = b) : Ending.returned (.bool a) = .returned (.bool b) := by rw [h]
def bitB (x p : Nat) : Bool := decide (x / 2 ^ p % 2 = 1)
theorem bit_of {x q r : Nat} {xs : List Nat} (h : Dg 18446744073709551616 x xs) (hq : q < xs.length) (hr : r < 64) : x / 2 ^ (64 * q + r) % 2 = xs.getD q 0 / 2 ^ r % 2 := by
  have h1 := nv_split 18446744073709551616 xs q hq
  rw [h.1] at h1
  have hlt : nv 18446744073709551616 (xs.take q) < 18446744073709551616 ^ q := by
    have := nv_lt 18446744073709551616 (xs.take q) (fun y hy => h.2.1 y (List.mem_of_mem_take hy))
    rwa [List.length_take, Nat.min_eq_left (by omega)] at this
  have h2 : x / 18446744073709551616 ^ q = xs.getD q 0 + 18446744073709551616 * nv 18446744073709551616 (xs.drop (q + 1)) := by
    rw [h1, Nat.add_mul_div_left _ _ (Nat.pow_pos (by omega)), Nat.div_eq_of_lt hlt, Nat.zero_add]
  rw [Nat.pow_add, ← Nat.div_div_eq_div_mul, ← pow64, h2]
  generalize xs.getD q 0 = v
  generalize nv 18446744073709551616 (xs.drop (q + 1)) = T
  have e : 18446744073709551616 * T = 2 ^ r * (2 * (2 ^ (63 - r) * T)) := by
    rw [two64 hr, show 64 - r = 63 - r + 1 by omega, Nat.pow_succ]; ac_rfl
  rw [e, Nat.add_mul_div_left _ _ (Nat.two_pow_pos r)]
  omega
set_option maxHeartbeats 1600000 in
theorem bitAt69 (ad : Option Addr) (n cap x p : Nat) (w : World) (hx : Lim w ad n cap 18446744073709551616 x) (hn : n ≤ 1099511627776) (hp : p ≤ 1099511627776) :
    Calls Tryd.prog 69 #[.slice ad n cap, .int .i64 (p : Int)] w fun r w' => r = .returned (.bool (bitB x p)) ∧ w' = w := by
  obtain ⟨xs, rx, dx⟩ := hx
  have hle := rx.le
  have hmax := rx.max
  obtain ⟨q, hq⟩ : ∃ q, q = p / 64 := ⟨_, rfl⟩
  obtain ⟨r, hr⟩ : ∃ r, r = p % 64 := ⟨_, rfl⟩
  have hr64 : r < 64 := by omega
  have HN : Hid (p = 64 * q + r) := by show _ = _; omega
  have eq : (p : Int) / 64 = (q : Int) := by omega
  have er : (p : Int) % 64 = (r : Int) := by omega
  clear hq hr
  by_cases hbig : n ≤ q
  · have fin : Hid (bitB x p = false) := by
      show _ = _
      have h1 := dx.upper
      rw [rx.len, pow64] at h1
      have : x / 2 ^ p = 0 := Nat.div_eq_of_lt (Nat.lt_of_lt_of_le h1 (Nat.pow_le_pow_right (by omega) (by have := HN.out; omega)))
      unfold bitB
      rw [this]; rfl
    have hb : ¬ (q : Int) < (n : Int) := by omega
    rw [fin.out]
    clear rx dx
    go_enter Tryd.func69, Tryd.ntmps69
    go_wp2
    go_ret
    exact ⟨rfl, rfl⟩
  · obtain ⟨p1, o1, rfl, hp1, hc1⟩ := rx.lt (by omega)
    have hcell := hc1 w (Gr.refl w) q (by omega)
    have fin : Hid (bitB x p = decide (xs.getD q 0 / 2 ^ r % 2 = 1)) := by
      show _ = _
      unfold bitB
      rw [HN.out, bit_of dx (by rw [rx.len]; omega) hr64]
    have hb : (q : Int) < (n : Int) := by omega
    have hv := getD_lt (by omega) dx.2.1 q
    rw [fin.out]
    clear rx dx hc1
    generalize xs.getD q 0 = v at *
    go_enter Tryd.func69, Tryd.ntmps69
    go_wp2_with (simp only [er])
    go_ret
    refine ⟨ret_bool' ?_, rfl⟩
    rw [show (v : Int) / 2 ^ r = ((v / 2 ^ r : Nat) : Int) by simp, and_one (Nat.lt_of_le_of_lt (Nat.div_le_self _ _) hv)]
    by_cases h : v / 2 ^ r % 2 = 1
    · rw [h]; rfl
    · rw [show v / 2 ^ r % 2 = 0 by omega]; rfl
set_option maxHeartbeats 1600000 in
theorem shift42n (ad : Option Addr) (n cap x b : Nat) (w : World) (hx : Lim w ad n cap 18446744073709551616 x) (b1 : n ≤ 1099511627776) (b0 : 0 < b) (hb : b ≤ 1099511627776) :
    Calls Tryd.prog 42 #[.slice ad n cap, .int .i64 (-(b : Int))] w fun e w' => ∃ ad' n' cap', e = .returned (.slice ad' n' cap') ∧ n' ≤ n ∧ Lim w' ad' n' cap' 18446744073709551616 (x / 2 ^ b) ∧ Gr w w' := by
  have H : Hid (Calls Tryd.prog 37 #[.slice ad n cap, .int .i64 (b : Int)] w fun e w' => ∃ ad' n' cap', e = .returned (.slice ad' n' cap') ∧ n' ≤ n ∧ Lim w' ad' n' cap' 18446744073709551616 (x / 2 ^ b) ∧ Gr w w') := shiftDown37 ad n cap x b w hx b1 (by omega)
  have h0 : -(b : Int) < 0 := by omega
  clear hx
  go_enter Tryd.func42, Tryd.ntmps42
  go_wp2_with (go_at_call 37; (with_reducible refine H.out.mono ?_); rintro r w3 ⟨a3, n3, c3, rfl, hn3, hl3, g3⟩)
  go_ret
  exact ⟨_, _, _, rfl, hn3, hl3, g3⟩
end Go.Proofs.YtaiflkpanankcaaDoor
