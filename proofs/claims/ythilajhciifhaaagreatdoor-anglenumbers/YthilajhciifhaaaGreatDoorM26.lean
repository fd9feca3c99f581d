import Derived.Test.YthilajhciifhaaaGreatDoorM25
import Derived.Test.YthilajhciifhaaaGreatDoorM19
import Derived.Test.YthilajhciifhaaaGreatDoorM20
import Derived.Test.YthilajhciifhaaaGreatDoorM08
import Derived.Test.YthilajhciifhaaaGreatDoorM24
namespace Go.Proofs.YthilajhciifhaaaGreatDoor.Fl
open Go.RowKit
open Ieee
set_option linter.unusedVariables false

theorem i64_exp (s : Bool) (n : Nat) (h : n < 9223372036854775808) : bits BinOp.and IntKind.i64 (wrap64 ((W s n : Nat) / 4503599627370496 : Int)) 2047 = ((n / 4503599627370496 : Nat) : Int) := by
  have e : ((W s n : Nat) / 4503599627370496 : Int) = ((W s n / 4503599627370496 : Nat) : Int) := by simp
  have hl := W_lt s n h
  have e2 : wrap64 ((W s n / 4503599627370496 : Nat) : Int) = ((W s n / 4503599627370496 : Nat) : Int) := by unfold wrap64; omega
  rw [e, e2]
  have key : ∀ a : Nat, a < 4096 → bits .and .i64 (a : Int) ((2047 : Nat) : Int) = ((a &&& 2047 : Nat) : Int) := by
    intro a ha
    have hx : a &&& 2047 < 2 ^ 12 := Nat.and_lt_two_pow _ (by omega)
    show IntKind.i64.wrap ((BitVec.ofInt 64 (a : Int) &&& BitVec.ofInt 64 ((2047 : Nat) : Int)).toNat : Int) = _
    rw [BitVec.toNat_and, ofInt_u64 a (by omega), ofInt_u64 2047 (by omega), IntKind.wrap_i64]
    omega
  rw [show (2047 : Int) = ((2047 : Nat) : Int) from rfl, key _ (by omega)]
  have h2 := Nat.and_two_pow_sub_one_eq_mod (W s n / 4503599627370496) 11
  rw [show (2047 : Nat) = 2 ^ 11 - 1 from rfl, h2, W_eq]
  congr 1
  cases s <;> simp <;> omega

theorem M_1 : M 4607182418800017408 = U := by
  have h := M_at (E74 - 52) 4503599627370496 (Or.inl ⟨by omega, by omega⟩)
  have e : (E74 - 52) * 4503599627370496 + 4503599627370496 = 4607182418800017408 := rfl
  rw [e] at h
  rw [h]
  unfold U
  have e2 : E74 = 52 + (E74 - 52) := rfl
  conv => rhs; rw [e2, Nat.pow_add]

theorem ldexp_same (x : Nat) (e : Int) (w : World) (h : (zeroB x || pinfB (absN x)) = true) :
    Calls Tryz.prog 50 #[.float .f64 x, .int .i64 e] w fun e w' => e = .returned (.float .f64 x) ∧ w' = w :=
  ldexp71 _ _ e w fun w => ldexp87i x e w h

end Go.Proofs.YthilajhciifhaaaGreatDoor.Fl
namespace Go.Proofs.YthilajhciifhaaaGreatDoor
open Go.RowKit
set_option linter.unusedVariables false

theorem ret_bool' {a b : Bool} (h : a = b) : Ending.returned (.bool a) = .returned (.bool b) := by rw [h]
def bitB (x p : Nat) : Bool := decide (x / 2 ^ p % 2 = 1)
theorem bit_of {x q r : Nat} {xs : List Nat} (h : Dg 18446744073709551616 x xs) (hq : q < xs.length) (hr : r < 64) : x / 2 ^ (64 * q + r) % 2 = xs.getD q 0 / 2 ^ r % 2 := by
  have h1 := nv_split 18446744073709551616 xs q hq
  rw [h.1] at h1
  have hlt : nv 18446744073709551616 (xs.take q) < 18446744073709551616 ^ q := by
    have := nv_lt 18446744073709551616 (xs.take q) (fun y hy => h.2.1 y (List.mem_of_mem_take hy))
    rwa [List.length_take, Nat.min_eq_left (by omega)] at this
  have h2 : x / 18446744073709551616 ^ q = xs.getD q 0 + 18446744073709551616 * nv 18446744073709551616 (xs.drop (q + 1)) := by
    rw [h1, Nat.add_mul_div_left _ _ (Nat.pow_pos (by omega)), Nat.div_eq_of_lt hlt, Nat.zero_add]
  rw [Nat.pow_add, ← Nat.div_div_eq_div_mul, ← pow64, h2]
  generalize xs.getD q 0 = v
  generalize nv 18446744073709551616 (xs.drop (q + 1)) = T
  have e : 18446744073709551616 * T = 2 ^ r * (2 * (2 ^ (63 - r) * T)) := by
    rw [two64 hr, show 64 - r = 63 - r + 1 by omega, Nat.pow_succ]; ac_rfl
  rw [e, Nat.add_mul_div_left _ _ (Nat.two_pow_pos r)]
  omega
set_option maxHeartbeats 1600000 in
theorem bitAt69 (ad : Option Addr) (n cap x p : Nat) (w : World) (hx : Lim w ad n cap 18446744073709551616 x) (hn : n ≤ 1099511627776) (hp : p ≤ 1099511627776) :
    Calls Tryz.prog 92 #[.slice ad n cap, .int .i64 (p : Int)] w fun r w' => r = .returned (.bool (bitB x p)) ∧ w' = w := by
  obtain ⟨xs, rx, dx⟩ := hx
  have hle := rx.le
  have hmax := rx.max
  obtain ⟨q, hq⟩ : ∃ q, q = p / 64 := ⟨_, rfl⟩
  obtain ⟨r, hr⟩ : ∃ r, r = p % 64 := ⟨_, rfl⟩
  have hr64 : r < 64 := by omega
  have HN : Hid (p = 64 * q + r) := by show _ = _; omega
  have eq : (p : Int) / 64 = (q : Int) := by omega
  have er : (p : Int) % 64 = (r : Int) := by omega
  clear hq hr
  by_cases hbig : n ≤ q
  · have fin : Hid (bitB x p = false) := by
      show _ = _
      have h1 := dx.upper
      rw [rx.len, pow64] at h1
      have : x / 2 ^ p = 0 := Nat.div_eq_of_lt (Nat.lt_of_lt_of_le h1 (Nat.pow_le_pow_right (by omega) (by have := HN.out; omega)))
      unfold bitB
      rw [this]; rfl
    have hb : ¬ (q : Int) < (n : Int) := by omega
    rw [fin.out]
    clear rx dx
    go_enter Tryz.func92, Tryz.ntmps92
    go_wp2
    go_ret
    exact ⟨rfl, rfl⟩
  · obtain ⟨p1, o1, rfl, hp1, hc1⟩ := rx.lt (by omega)
    have hcell := hc1 w (Gr.refl w) q (by omega)
    have fin : Hid (bitB x p = decide (xs.getD q 0 / 2 ^ r % 2 = 1)) := by
      show _ = _
      unfold bitB
      rw [HN.out, bit_of dx (by rw [rx.len]; omega) hr64]
    have hb : (q : Int) < (n : Int) := by omega
    have hv := getD_lt (by omega) dx.2.1 q
    rw [fin.out]
    clear rx dx hc1
    generalize xs.getD q 0 = v at *
    go_enter Tryz.func92, Tryz.ntmps92
    go_wp2_with (simp only [er])
    go_ret
    refine ⟨ret_bool' ?_, rfl⟩
    rw [show (v : Int) / 2 ^ r = ((v / 2 ^ r : Nat) : Int) by simp, and_one (Nat.lt_of_le_of_lt (Nat.div_le_self _ _) hv)]
    by_cases h : v / 2 ^ r % 2 = 1
    · rw [h]; rfl
    · rw [show v / 2 ^ r % 2 = 0 by omega]; rfl
set_option maxHeartbeats 1600000 in
theorem shift42n (ad : Option Addr) (n cap x b : Nat) (w : World) (hx : Lim w ad n cap 18446744073709551616 x) (b1 : n ≤ 1099511627776) (b0 : 0 < b) (hb : b ≤ 1099511627776) :
    Calls Tryz.prog 80 #[.slice ad n cap, .int .i64 (-(b : Int))] w fun e w' => ∃ ad' n' cap', e = .returned (.slice ad' n' cap') ∧ n' ≤ n ∧ Lim w' ad' n' cap' 18446744073709551616 (x / 2 ^ b) ∧ Gr w w' := by
  have H : Hid (Calls Tryz.prog 47 #[.slice ad n cap, .int .i64 (b : Int)] w fun e w' => ∃ ad' n' cap', e = .returned (.slice ad' n' cap') ∧ n' ≤ n ∧ Lim w' ad' n' cap' 18446744073709551616 (x / 2 ^ b) ∧ Gr w w') := shiftDown37 ad n cap x b w hx b1 (by omega)
  have h0 : -(b : Int) < 0 := by omega
  clear hx
  go_enter Tryz.func80, Tryz.ntmps80
  go_wp2_with (go_at_call 47; (with_reducible refine H.out.mono ?_); rintro r w3 ⟨a3, n3, c3, rfl, hn3, hl3, g3⟩)
  go_ret
  exact ⟨_, _, _, rfl, hn3, hl3, g3⟩
end Go.Proofs.YthilajhciifhaaaGreatDoor
namespace Go.Proofs.YthilajhciifhaaaGreatDoor
open Go.RowKit
set_option linter.unusedVariables false

/-- is it rounded up: an odd number over 2 to the power b -/
def upB (x b : Nat) : Bool := bitB x (b - 1) && (decide (1 < b) || decide (x / 2 ^ b % 2 = 1))
/-- one limb, or none -/
theorem lim_head {w : World} {ad : Option Addr} {n cap x : Nat} (h : Lim w ad n cap 18446744073709551616 x) (h1 : x < 18446744073709551616) : (x = 0 ∧ n = 0) ∨ (0 < x ∧ n = 1 ∧ ∃ p o, ad = some ⟨p, o, none⟩ ∧ 1 ≤ cap ∧ cap ≤ 9223372036854775807 ∧ w.cell? ⟨p, o, none⟩ = some (.int .u64 (x : Int))) := by
  by_cases h0 : x = 0
  · subst h0
    obtain ⟨xs, rx, dx⟩ := h
    exact Or.inl ⟨rfl, by rw [← rx.len]; exact (dx.zero_iff (by omega)).2 rfl⟩
  · obtain rfl : n = 1 := lim_one h (by omega) h1
    obtain ⟨xs, rx, dx⟩ := h
    obtain ⟨v, rfl⟩ : ∃ v, xs = [v] := by
      have := rx.len
      match xs, this with
      | [v], _ => exact ⟨v, rfl⟩
    have hv : v = x := by have := dx.1; simpa [nv] using this
    subst hv
    obtain ⟨p1, o1, rfl, hp1, hc1⟩ := rx.cells (by omega)
    have hc0 := hc1 0 (by omega)
    exact Or.inr ⟨by omega, rfl, p1, o1, rfl, rx.le, rx.max, hc0⟩
theorem par_one {v : Nat} (h : v < 18446744073709551616) : (bits BinOp.and IntKind.u64 (v : Int) 1 == 1) = decide (v % 2 = 1) := by
  rw [and_one h]
  by_cases h : v % 2 = 1
  · rw [h]; rfl
  · rw [show v % 2 = 0 by omega]; rfl
set_option maxHeartbeats 3200000 in
theorem nearest48p (ad : Option Addr) (n cap x b : Nat) (w : World) (hx : Lim w ad n cap 18446744073709551616 x) (b1 : n ≤ 1099511627776) (b0 : 0 < b) (hb : b ≤ 1099511627776) (hv : x / 2 ^ b + 1 < 18446744073709551616) :
    Calls Tryz.prog 51 #[.slice ad n cap, .int .i64 (b : Int)] w fun r w' => r = .returned (.int .u64 ((x / 2 ^ b + (upB x b).toNat : Nat) : Int)) ∧ Gr w w' := by
  have H42 : Hid (Calls Tryz.prog 80 #[.slice ad n cap, .int .i64 (-(b : Int))] w fun r w' => ∃ ad' n' cap', r = .returned (.slice ad' n' cap') ∧ ((x / 2 ^ b = 0 ∧ n' = 0) ∨ (0 < x / 2 ^ b ∧ n' = 1 ∧ ∃ p o, ad' = some ⟨p, o, none⟩ ∧ 1 ≤ cap' ∧ cap' ≤ 9223372036854775807 ∧ w'.cell? ⟨p, o, none⟩ = some (.int .u64 ((x / 2 ^ b : Nat) : Int)))) ∧ Gr w w') := by
    refine Calls.mono (shift42n ad n cap x b w hx b1 b0 hb) ?_
    rintro r w' ⟨a, m, c, rfl, h2, h3, h4⟩
    exact ⟨a, m, c, rfl, lim_head h3 (by omega), h4⟩
  have H69 : Hid (∀ w1, Gr w w1 → Calls Tryz.prog 92 #[.slice ad n cap, .int .i64 ((b : Int) - 1)] w1 fun r w' => r = .returned (.bool (bitB x (b - 1))) ∧ w' = w1) := fun w1 g => by
    have := bitAt69 ad n cap x (b - 1) w1 (hx.gr g) b1 (by omega)
    rw [show ((b - 1 : Nat) : Int) = (b : Int) - 1 by omega] at this
    exact this
  clear hx
  unfold upB
  have hpar := par_one (v := x / 2 ^ b) (by omega)
  generalize x / 2 ^ b = v at *
  generalize bitB x (b - 1) = B at *
  have hb0 : (b : Int) > 0 := by omega
  have e1 : ((v + 1 : Nat) : Int) = (v : Int) + 1 := by omega
  have hvz : 0 < v ∨ v = 0 := by omega
  cases B
  · rw [show (v + (false && (decide (1 < b) || decide (v % 2 = 1))).toNat) = v by simp]
    rcases hvz with hv0 | rfl
    · go_enter Tryz.func51, Tryz.ntmps51
      go_wp2_with (first | (go_at_call 80; (with_reducible refine H42.out.mono ?_); rintro r w1 ⟨a1, m1, k1, rfl, hh, g1⟩; obtain ⟨rfl, p, o, rfl, hc1, hc2, hcell⟩ : m1 = 1 ∧ ∃ p o, a1 = some ⟨p, o, none⟩ ∧ 1 ≤ k1 ∧ k1 ≤ 9223372036854775807 ∧ w1.cell? ⟨p, o, none⟩ = some (.int .u64 (v : Int)) := (by rcases hh with ⟨h, _⟩ | ⟨_, h⟩; omega; exact h); clear hh) | (go_at_call 92; (with_reducible refine (H69.out _ g1).mono ?_); rintro r w2 ⟨rfl, rfl⟩))
      go_ret
      exact ⟨rfl, g1⟩
    · go_enter Tryz.func51, Tryz.ntmps51
      go_wp2_with (first | (go_at_call 80; (with_reducible refine H42.out.mono ?_); rintro r w1 ⟨a1, m1, k1, rfl, hh, g1⟩; obtain rfl : m1 = 0 := (by rcases hh with ⟨_, h⟩ | ⟨h, _⟩; exact h; omega); clear hh) | (go_at_call 92; (with_reducible refine (H69.out _ g1).mono ?_); rintro r w2 ⟨rfl, rfl⟩))
      go_ret
      exact ⟨rfl, g1⟩
  · by_cases h1 : 1 < b
    · rw [show (v + (true && (decide (1 < b) || decide (v % 2 = 1))).toNat) = v + 1 by simp [h1]]
      have hb1 : (b : Int) > 1 := by omega
      rw [e1]
      rcases hvz with hv0 | rfl
      · go_enter Tryz.func51, Tryz.ntmps51
        go_wp2_with (first | (go_at_call 80; (with_reducible refine H42.out.mono ?_); rintro r w1 ⟨a1, m1, k1, rfl, hh, g1⟩; obtain ⟨rfl, p, o, rfl, hc1, hc2, hcell⟩ : m1 = 1 ∧ ∃ p o, a1 = some ⟨p, o, none⟩ ∧ 1 ≤ k1 ∧ k1 ≤ 9223372036854775807 ∧ w1.cell? ⟨p, o, none⟩ = some (.int .u64 (v : Int)) := (by rcases hh with ⟨h, _⟩ | ⟨_, h⟩; omega; exact h); clear hh) | (go_at_call 92; (with_reducible refine (H69.out _ g1).mono ?_); rintro r w2 ⟨rfl, rfl⟩))
        go_ret
        exact ⟨rfl, g1⟩
      · go_enter Tryz.func51, Tryz.ntmps51
        go_wp2_with (first | (go_at_call 80; (with_reducible refine H42.out.mono ?_); rintro r w1 ⟨a1, m1, k1, rfl, hh, g1⟩; obtain rfl : m1 = 0 := (by rcases hh with ⟨_, h⟩ | ⟨h, _⟩; exact h; omega); clear hh) | (go_at_call 92; (with_reducible refine (H69.out _ g1).mono ?_); rintro r w2 ⟨rfl, rfl⟩))
        go_ret
        exact ⟨rfl, g1⟩
    · have hb1 : ¬ (b : Int) > 1 := by omega
      by_cases hp : v % 2 = 1
      · rw [show (v + (true && (decide (1 < b) || decide (v % 2 = 1))).toNat) = v + 1 by simp [hp]]
        rw [decide_eq_true hp] at hpar
        rw [e1]
        have hv0 : 0 < v := by omega
        go_enter Tryz.func51, Tryz.ntmps51
        go_wp2_with (first | (go_at_call 80; (with_reducible refine H42.out.mono ?_); rintro r w1 ⟨a1, m1, k1, rfl, hh, g1⟩; obtain ⟨rfl, p, o, rfl, hc1, hc2, hcell⟩ : m1 = 1 ∧ ∃ p o, a1 = some ⟨p, o, none⟩ ∧ 1 ≤ k1 ∧ k1 ≤ 9223372036854775807 ∧ w1.cell? ⟨p, o, none⟩ = some (.int .u64 (v : Int)) := (by rcases hh with ⟨h, _⟩ | ⟨_, h⟩; omega; exact h); clear hh) | (go_at_call 92; (with_reducible refine (H69.out _ g1).mono ?_); rintro r w2 ⟨rfl, rfl⟩))
        go_ret
        exact ⟨rfl, g1⟩
      · rw [show (v + (true && (decide (1 < b) || decide (v % 2 = 1))).toNat) = v by simp [hp, h1]]
        rw [decide_eq_false hp] at hpar
        rcases hvz with hv0 | rfl
        · go_enter Tryz.func51, Tryz.ntmps51
          go_wp2_with (first | (go_at_call 80; (with_reducible refine H42.out.mono ?_); rintro r w1 ⟨a1, m1, k1, rfl, hh, g1⟩; obtain ⟨rfl, p, o, rfl, hc1, hc2, hcell⟩ : m1 = 1 ∧ ∃ p o, a1 = some ⟨p, o, none⟩ ∧ 1 ≤ k1 ∧ k1 ≤ 9223372036854775807 ∧ w1.cell? ⟨p, o, none⟩ = some (.int .u64 (v : Int)) := (by rcases hh with ⟨h, _⟩ | ⟨_, h⟩; omega; exact h); clear hh) | (go_at_call 92; (with_reducible refine (H69.out _ g1).mono ?_); rintro r w2 ⟨rfl, rfl⟩))
          go_ret
          exact ⟨rfl, g1⟩
        · have hz : (bits BinOp.and IntKind.u64 0 1 == 1) = false := by kernel_rfl
          go_enter Tryz.func51, Tryz.ntmps51
          go_wp2_with (first | (go_at_call 80; (with_reducible refine H42.out.mono ?_); rintro r w1 ⟨a1, m1, k1, rfl, hh, g1⟩; obtain rfl : m1 = 0 := (by rcases hh with ⟨_, h⟩ | ⟨h, _⟩; exact h; omega); clear hh) | (go_at_call 92; (with_reducible refine (H69.out _ g1).mono ?_); rintro r w2 ⟨rfl, rfl⟩))
          go_ret
          exact ⟨rfl, g1⟩
end Go.Proofs.YthilajhciifhaaaGreatDoor
namespace Go.Proofs.YthilajhciifhaaaGreatDoor.Fl
open Go.RowKit
open Ieee
set_option linter.unusedVariables false

theorem one_row (w : World) (o1 : Obj) (v : Nat) : Row ((w.alloc o1).alloc (.cells #[.int .u64 (v : Int)] 49)) (some ⟨w.heap.size + 1, 0, none⟩) 1 1 [v] := by
  refine ⟨rfl, Nat.le_refl _, by omega, (fun h => by cases h), fun _ => ⟨w.heap.size + 1, 0, rfl, by simp, fun j hj => ?_⟩⟩
  obtain rfl : j = 0 := by omega
  have := second_block w o1 (.cells #[.int .u64 (v : Int)] 49)
  simp only [World.cell?, this, Nat.zero_add]
  rfl
theorem first_block (w : World) (o1 : Obj) : (w.alloc o1).heap[w.heap.size]? = some o1 := by show (w.heap.push _)[w.heap.size]? = _; simp
/-- settle, of one limb -/
theorem settle1 (s : Bool) (v : Nat) (e : Int) (w : World) (o1 : Obj) (hv : v < 18446744073709551616) (hT : TabAt 1 Lib.deBruijn64tab w) (e1 : -1000000000000 ≤ e) (e2 : e ≤ 1000000000000) :
    Hid (Calls Tryz.prog 45 #[.agg #[.bool s, .slice (some ⟨w.heap.size + 1, 0, none⟩) 1 1, .int .i64 e]] ((w.alloc o1).alloc (.cells #[.int .u64 (v : Int)] 49)) fun r w' => ∃ a b c d f' g', r = .returned (.tuple #[.agg #[.bool a, .slice b c d, .int .i64 f'], .int .i64 g']) ∧ Hid (SettledN w.heap.size w' r s v e) ∧ Gr ((w.alloc o1).alloc (.cells #[.int .u64 (v : Int)] 49)) w') := by
  have := settle35n s (some ⟨w.heap.size + 1, 0, none⟩) 1 1 v e [v] _ (one_row w o1 v) (by simpa using hv) (by simp [nv]) (by omega) (tab_gr hT (gr2 _ _)) e1 e2
  refine Calls.mono this ?_
  rintro r w' ⟨h1, h2⟩
  obtain ⟨a, b, c, d, f, g', hr⟩ := h1.form
  exact ⟨a, b, c, d, f, g', hr, h1.low (gr2 _ _).size, h2⟩
end Go.Proofs.YthilajhciifhaaaGreatDoor.Fl
namespace Go.Proofs.YthilajhciifhaaaGreatDoor
theorem SettledN.gr {B : Nat} {w w' : World} {r : Ending} {s : Bool} {x : Nat} {e : Int} (h : SettledN B w r s x e) (g : Gr w w') : SettledN B w' r s x e := ⟨h.told.gr g, h.new.gr g⟩
end Go.Proofs.YthilajhciifhaaaGreatDoor
namespace Go.Proofs.YthilajhciifhaaaGreatDoor.Fl
open Go.RowKit
open Ieee
set_option linter.unusedVariables false

theorem int10nw (v : Nat) (n : Int) (h2 : v ≤ 9223372036854775808) (hv : n = -(v : Int)) (hn : n < 0) : IntKind.u64.wrap (-IntKind.u64.wrap n) = (v : Int) := by
  simp only [IntKind.wrap_u64]
  omega
set_option maxHeartbeats 1600000 in
theorem int10n (v : Nat) (n : Int) (w : World) (hn : n < 0) (hv : Hid (n = -(v : Int))) (h2 : v ≤ 9223372036854775808) (hT : TabAt 1 Lib.deBruijn64tab w) :
    Calls Tryz.prog 18 #[.int .i64 n] w fun r w' => ∃ a b c d f g, r = .returned (.agg #[.bool a, .slice b c d, .int .i64 f]) ∧ Hid (SettledN w.heap.size w' (.returned (.tuple #[.agg #[.bool a, .slice b c d, .int .i64 f], .int .i64 g])) true v 0) ∧ Gr w w' := by
  have HS := settle1 true v 0 w (.cells #[.bool false, .slice none 0 0, .int .i64 0] 24) (by omega) hT (by omega) (by omega)
  have kb0 : Hid _ := first_block w (.cells #[.bool false, .slice none 0 0, .int .i64 0] 24)
  have hw : Hid (IntKind.u64.wrap (-IntKind.u64.wrap n) = (v : Int)) := int10nw v n h2 hv.out hn
  clear hT h2
  go_enter Tryz.func18, Tryz.ntmps18
  go_wp2_with (go_at_call 45; rw [hw.out]; (with_reducible refine HS.out.mono ?_); rintro r w2 ⟨za, zb, zc, zd, zf, zg, rfl, hS, g2⟩; have G2 := ((((Gr.refl w).alloc (.cells #[.bool false, .slice none 0 0, .int .i64 0] 24)).alloc (.cells #[.int .u64 (v : Int)] 49)).trans g2).alloc (.cells #[.bool za, .slice zb zc zd, .int .i64 zf] 24); have kb2 := ((Gr.refl w2).alloc (.cells #[.bool za, .slice zb zc zd, .int .i64 zf] 24)).keepH (g2.keepH (((Gr.refl _).alloc (.cells #[.int .u64 (v : Int)] 49)).keepH kb0.out)); obtain ⟨t0, t1, t2, u0, u1, u2⟩ := Out3.of kb2)
  refine bodyPost_ret (v := .agg #[.bool za, .slice zb zc zd, .int .i64 zf]) ?_ rfl ⟨za, zb, zc, zd, zf, zg, rfl, (hS.out.gr ((Gr.refl w2).alloc _)).set3 kb2 _ _ _, ((G2.setCell (p := ⟨w.heap.size, 0, none⟩) (Nat.le_refl _) _).setCell (p := ⟨w.heap.size, 1, none⟩) (Nat.le_refl _) _).setCell (p := ⟨w.heap.size, 2, none⟩) (Nat.le_refl _) _⟩
  simp [results, Tryz.results18, go_sem, t0, t1, t2]
theorem int10pw (v : Nat) (n : Int) (h2 : v ≤ 9223372036854775808) (hv : n = (v : Int)) : IntKind.u64.wrap n = (v : Int) := by
  simp only [IntKind.wrap_u64]
  omega
set_option maxHeartbeats 1600000 in
theorem int10p (v : Nat) (n : Int) (w : World) (hn : ¬ n < 0) (hv : Hid (n = (v : Int))) (h2 : v ≤ 9223372036854775808) (hT : TabAt 1 Lib.deBruijn64tab w) :
    Calls Tryz.prog 18 #[.int .i64 n] w fun r w' => ∃ a b c d f g, r = .returned (.agg #[.bool a, .slice b c d, .int .i64 f]) ∧ Hid (SettledN w.heap.size w' (.returned (.tuple #[.agg #[.bool a, .slice b c d, .int .i64 f], .int .i64 g])) false v 0) ∧ Gr w w' := by
  have HS := settle1 false v 0 w (.cells #[.bool false, .slice none 0 0, .int .i64 0] 24) (by omega) hT (by omega) (by omega)
  have kb0 : Hid _ := first_block w (.cells #[.bool false, .slice none 0 0, .int .i64 0] 24)
  have hw : Hid (IntKind.u64.wrap n = (v : Int)) := int10pw v n h2 hv.out
  clear hT h2
  go_enter Tryz.func18, Tryz.ntmps18
  go_wp2_with (go_at_call 45; rw [hw.out]; (with_reducible refine HS.out.mono ?_); rintro r w2 ⟨za, zb, zc, zd, zf, zg, rfl, hS, g2⟩; have G2 := ((((Gr.refl w).alloc (.cells #[.bool false, .slice none 0 0, .int .i64 0] 24)).alloc (.cells #[.int .u64 (v : Int)] 49)).trans g2).alloc (.cells #[.bool za, .slice zb zc zd, .int .i64 zf] 24); have kb2 := ((Gr.refl w2).alloc (.cells #[.bool za, .slice zb zc zd, .int .i64 zf] 24)).keepH (g2.keepH (((Gr.refl _).alloc (.cells #[.int .u64 (v : Int)] 49)).keepH kb0.out)); obtain ⟨t0, t1, t2, u0, u1, u2⟩ := Out3.of kb2)
  refine bodyPost_ret (v := .agg #[.bool za, .slice zb zc zd, .int .i64 zf]) ?_ rfl ⟨za, zb, zc, zd, zf, zg, rfl, (hS.out.gr ((Gr.refl w2).alloc _)).set3 kb2 _ _ _, ((G2.setCell (p := ⟨w.heap.size, 0, none⟩) (Nat.le_refl _) _).setCell (p := ⟨w.heap.size, 1, none⟩) (Nat.le_refl _) _).setCell (p := ⟨w.heap.size, 2, none⟩) (Nat.le_refl _) _⟩
  simp [results, Tryz.results18, go_sem, t0, t1, t2]
end Go.Proofs.YthilajhciifhaaaGreatDoor.Fl
namespace Go.Proofs.YthilajhciifhaaaGreatDoor
open Go.RowKit
set_option linter.unusedVariables false
/-- 2^-P, in units of 2^-KN -/
def Un (P : Nat) : Int := ((2 ^ (KN - P) : Nat) : Int)
theorem Un_pos (P : Nat) : 0 < Un P := by unfold Un; exact Int.ofNat_lt.2 (Nat.two_pow_pos _)
theorem Un_split {P Q : Nat} (h : P ≤ Q) (hQ : Q ≤ 1000000) : Un P = ((2 ^ (Q - P) : Nat) : Int) * Un Q := by
  unfold Un
  have hk := KN_eq
  rw [← Int.natCast_mul, ← Nat.pow_add, show Q - P + (KN - Q) = KN - P by omega]
theorem gd_un {P k : Nat} {C : Int} (h : C.natAbs < 2 ^ k) : Gd P k (C * Un P) := ⟨C, rfl, h⟩
theorem sv_un (s : Bool) (x P : Nat) (hP : P ≤ 1000000) : sv KK s x (-(P : Int)) = (if s then -(x : Int) else x) * Un P := by
  have hk := KN_eq
  have hkk := KK_eq
  unfold sv Un
  rw [show (-(P : Int) + KK).toNat = KN - P by omega]
  cases s
  · simp only [Bool.false_eq_true, if_false]; rw [Int.natCast_mul]
  · simp only [if_true]; rw [Int.natCast_mul, Int.neg_mul]
theorem sv_int_n (n : Int) (h : n < 0) : sv KK true n.natAbs 0 = n * Un 0 := by
  have := sv_un true n.natAbs 0 (by omega)
  simp only [Int.natCast_zero, Int.neg_zero, if_true] at this
  rw [this, show -(n.natAbs : Int) = n by omega]
theorem sv_int_p (n : Int) (h : ¬ n < 0) : sv KK false n.natAbs 0 = n * Un 0 := by
  have := sv_un false n.natAbs 0 (by omega)
  simp only [Int.natCast_zero, Int.neg_zero, Bool.false_eq_true, if_false] at this
  rw [this, show (n.natAbs : Int) = n by omega]
attribute [irreducible] Un
/-- an answer: a right dyad of that worth, and no error -/
def DvT (w : World) (r : Ending) (V : Int) : Prop := ∃ s ad n cap e, r = .returned (.tuple #[.agg #[.bool s, .slice ad n cap, .int .i64 e], .int .i64 0]) ∧ DyV w s ad n cap e V
theorem dyv_zero (w : World) (V : Int) (h : V = 0) : DyV w false none 0 0 0 V := by
  subst h
  exact ⟨0, ⟨⟨[], Row.empty (by omega) (fun _ => rfl), Dg.nil⟩, by omega, Or.inl ⟨rfl, rfl, rfl⟩⟩, sv_zero _ _ _⟩
theorem sv_shift (K : Int) (s : Bool) (x : Nat) (e : Int) (k : Nat) (h : 0 ≤ e - k + K) : sv K s x e = ((2 ^ k : Nat) : Int) * sv K s x (e - k) := by
  unfold sv
  have h1 : (e + K).toNat = k + (e - k + K).toNat := by omega
  rw [h1, Nat.pow_add]
  have h2 : x * (2 ^ k * 2 ^ (e - k + K).toNat) = 2 ^ k * (x * 2 ^ (e - k + K).toNat) := by rw [Nat.mul_left_comm]
  rw [h2]
  cases s
  · simp only [Bool.false_eq_true, if_false]; rw [Int.natCast_mul]
  · simp only [if_true]; rw [Int.natCast_mul, Int.mul_neg]
theorem intD (n : Int) (w : World) (h1 : -1000000 ≤ n) (h2 : n ≤ 1000000) (hT : TabAt 1 Lib.deBruijn64tab w) :
    Calls Tryz.prog 18 #[.int .i64 n] w fun r w' => Dv w' r (n * Un 0) ∧ Gr w w' := by
  have hkk := KK_eq
  have hg : Gd 0 64 (n * Un 0) := gd_un (by
    have h : n.natAbs ≤ 1000000 := by omega
    exact Nat.lt_of_le_of_lt h (by decide))
  by_cases hn : n < 0
  · refine (Fl.int10n n.natAbs n w hn (by show n = _; omega) (by omega) hT).mono ?_
    rintro r w' ⟨a, b, c, d, f, g, rfl, hS, hG⟩
    obtain ⟨s', ad, n', cap, e', he, hd⟩ := hS.out.told.dyv (lo := 0) (k := 64) (V := n * Un 0) (sv_int_n n hn) hg (by omega) (by omega) (by omega)
    simp only [Ending.returned.injEq, Value.tuple.injEq, Array.mk.injEq, List.cons.injEq, Value.agg.injEq, Value.bool.injEq, Value.slice.injEq, Value.int.injEq, and_true, true_and] at he
    obtain ⟨⟨rfl, ⟨rfl, rfl, rfl⟩, rfl⟩, rfl⟩ := he
    exact ⟨⟨_, _, _, _, _, rfl, hd⟩, hG⟩
  · refine (Fl.int10p n.natAbs n w hn (by show n = _; omega) (by omega) hT).mono ?_
    rintro r w' ⟨a, b, c, d, f, g, rfl, hS, hG⟩
    obtain ⟨s', ad, n', cap, e', he, hd⟩ := hS.out.told.dyv (lo := 0) (k := 64) (V := n * Un 0) (sv_int_p n hn) hg (by omega) (by omega) (by omega)
    simp only [Ending.returned.injEq, Value.tuple.injEq, Array.mk.injEq, List.cons.injEq, Value.agg.injEq, Value.bool.injEq, Value.slice.injEq, Value.int.injEq, and_true, true_and] at he
    obtain ⟨⟨rfl, ⟨rfl, rfl, rfl⟩, rfl⟩, rfl⟩ := he
    exact ⟨⟨_, _, _, _, _, rfl, hd⟩, hG⟩
theorem scaleD (s : Bool) (ad : Option Addr) (n cap : Nat) (e C : Int) (P k j : Nat) (w : World) (d : DyV w s ad n cap e (C * Un P)) (hT : TabAt 1 Lib.deBruijn64tab w) (hC : C.natAbs < 2 ^ j) (hj : j ≤ 200000) (hP : P + k ≤ 100000) :
    Calls Tryz.prog 13 #[.agg #[.bool s, .slice ad n cap, .int .i64 e], .int .i64 (-(k : Int))] w fun r w' => DvT w' r (C * Un (P + k)) ∧ Gr w w' := by
  have hkk := KK_eq
  have hs := d.sign
  obtain ⟨x, dx, hV⟩ := d
  cases n with
  | zero =>
    have hC0 : C = 0 := by
      have hp := Un_pos P
      rcases Int.mul_eq_zero.1 (hs.2.2.1.1 rfl) with h | h
      · exact h
      · omega
    refine (scale15z s ad 0 cap e _ w dx.r26).mono ?_
    rintro r w' ⟨rfl, hG⟩
    exact ⟨⟨_, _, _, _, _, rfl, dyv_zero _ _ (by rw [hC0, Int.zero_mul])⟩, hG⟩
  | succ n =>
    refine (scale15m s ad n cap x e (-(k : Int)) w dx hT (by omega) (by omega)).mono ?_
    rintro r w' ⟨hS, hG⟩
    refine ⟨?_, hG⟩
    have e1 := dx.low
    refine hS.dyv (lo := P + k) (k := j) ?_ (gd_un hC) (by omega) (by omega) (by omega)
    have h1 := sv_shift KK s x e k (by omega)
    rw [hV, Un_split (P := P) (Q := P + k) (by omega) (by omega), Nat.add_sub_cancel_left, Int.mul_left_comm] at h1
    have h2 := Int.eq_of_mul_eq_mul_left (Int.ne_of_gt (Int.ofNat_lt.2 (Nat.two_pow_pos k))) h1
    rw [← Int.sub_eq_add_neg]
    exact h2.symm
end Go.Proofs.YthilajhciifhaaaGreatDoor
namespace Go.Proofs.YthilajhciifhaaaGreatDoor
open Go.RowKit
set_option linter.unusedVariables false
theorem addD (s t : Bool) (ad1 ad2 : Option Addr) (n1 n2 c1 c2 : Nat) (e f C D : Int) (P j : Nat) (w : World) (hx : DyV w s ad1 n1 c1 e (C * Un P)) (hy : DyV w t ad2 n2 c2 f (D * Un P)) (hT : TabAt 1 Lib.deBruijn64tab w) (hC : C.natAbs < 2 ^ j) (hD : D.natAbs < 2 ^ j) (hP : P ≤ 100000) (hj : j < 200000) :
    Calls Tryz.prog 9 #[.agg #[.bool s, .slice ad1 n1 c1, .int .i64 e], .agg #[.bool t, .slice ad2 n2 c2, .int .i64 f]] w fun r w' => DvT w' r ((C + D) * Un P) ∧ Gr w w' := by
  refine (addG s t ad1 ad2 n1 n2 c1 c2 e f _ _ w P j hx hy hT (gd_un hC) (gd_un hD) hP hj).mono ?_
  rintro r w' ⟨s', ad, n, cap, e', rfl, d, g⟩
  exact ⟨⟨_, _, _, _, _, rfl, by rw [Int.add_mul]; exact d⟩, g⟩
theorem subD (s t : Bool) (ad1 ad2 : Option Addr) (n1 n2 c1 c2 : Nat) (e f C D : Int) (P j : Nat) (w : World) (hx : DyV w s ad1 n1 c1 e (C * Un P)) (hy : DyV w t ad2 n2 c2 f (D * Un P)) (hT : TabAt 1 Lib.deBruijn64tab w) (hC : C.natAbs < 2 ^ j) (hD : D.natAbs < 2 ^ j) (hP : P ≤ 100000) (hj : j < 200000) :
    Calls Tryz.prog 10 #[.agg #[.bool s, .slice ad1 n1 c1, .int .i64 e], .agg #[.bool t, .slice ad2 n2 c2, .int .i64 f]] w fun r w' => DvT w' r ((C - D) * Un P) ∧ Gr w w' := by
  refine (subG s t ad1 ad2 n1 n2 c1 c2 e f _ _ w P j hx hy hT (gd_un hC) (gd_un hD) hP hj).mono ?_
  rintro r w' ⟨s', ad, n, cap, e', rfl, d, g⟩
  exact ⟨⟨_, _, _, _, _, rfl, by rw [Int.sub_mul]; exact d⟩, g⟩
theorem un_zero {C : Int} {P : Nat} (h : C * Un P = 0) : C = 0 := by
  have hp := Un_pos P
  rcases Int.mul_eq_zero.1 h with h | h
  · exact h
  · omega
theorem rootD (s : Bool) (ad : Option Addr) (n cap : Nat) (e : Int) (M P Q R j : Nat) (w : World) (d : DyV w s ad n cap e ((M : Int) * Un Q)) (hT : TabAt 1 Lib.deBruijn64tab w) (hQ : Q ≤ 2 * P) (hP : P ≤ 40000) (hM : M < 2 ^ j) (hj : j ≤ 100000) (r1 : R * R ≤ M * 2 ^ (2 * P - Q)) (r2 : M * 2 ^ (2 * P - Q) < (R + 1) * (R + 1)) (hR : R < 2 ^ j) :
    Calls Tryz.prog 35 #[.agg #[.bool s, .slice ad n cap, .int .i64 e], .int .i64 (-(P : Int)), .bool false] w fun r w' => DvT w' r ((R : Int) * Un P) ∧ Gr w w' := by
  have hkk := KK_eq
  have hkn := KN_eq
  have hs := d.sign
  have s0 : s = false := by
    cases s
    · rfl
    · have := hs.1 rfl
      have h2 : 0 ≤ (M : Int) * Un Q := Int.mul_nonneg (Int.natCast_nonneg _) (Int.le_of_lt (Un_pos Q))
      omega
  subst s0
  cases n with
  | zero =>
    have hM0 : M = 0 := by have := un_zero (hs.2.2.1.1 rfl); omega
    have hR0 : R = 0 := by
      rw [hM0, Nat.zero_mul] at r1
      exact (Nat.mul_eq_zero.1 (Nat.le_zero.1 r1)).elim id id
    obtain ⟨x, dx, hV⟩ := d
    refine (root_z false ad cap x e _ w dx (by omega) (by omega)).mono ?_
    rintro r w' ⟨rfl, hG⟩
    exact ⟨⟨_, _, _, _, _, rfl, dyv_zero _ _ (by rw [hR0]; exact Int.zero_mul _)⟩, hG⟩
  | succ n =>
    obtain ⟨x, dx, hV⟩ := d
    have x0 : x ≠ 0 := fun h => by
      have := dx.lim
      rw [h] at this
      have := lim_zero this
      omega
    obtain ⟨q, hq, e1, e2⟩ : ∃ q, x = 2 * q + 1 ∧ -1048576 ≤ e ∧ e ≤ 1048576 := by
      rcases dx.right with ⟨h, _⟩ | h
      · exact absurd h x0
      · exact h
    have hg : Gd Q j ((M : Int) * Un Q) := gd_un (by rw [Int.natAbs_natCast]; exact hM)
    have ho := gd_odd (t := 0) (s := false) (q := q) (e := e) (by rw [Nat.pow_zero, Nat.one_mul, ← hq]; exact hV) hg (by omega) (by omega)
    simp only [Int.natCast_zero, Int.add_zero] at ho
    obtain ⟨o1, o2, o3⟩ := ho
    have hpw : 0 ≤ e + 2 * (P : Int) := by omega
    have hbl : bl x ≤ j := bl_le_of_lt (by rw [hq]; exact o3)
    have eM : RM x (e - 2 * (-(P : Int))) = M * 2 ^ (2 * P - Q) := by
      unfold RM
      rw [if_neg (by omega)]
      have h1 := sv_abs KK false x e
      rw [hV, Int.natAbs_mul, Int.natAbs_natCast] at h1
      have hu : (Un Q).natAbs = 2 ^ (2 * P - Q) * 2 ^ (KN - 2 * P) := by
        unfold Un
        rw [Int.natAbs_natCast, ← Nat.pow_add]
        congr 1
        omega
      rw [hu, show (e + KK).toNat = (e - 2 * (-(P : Int))).toNat + (KN - 2 * P) by omega, Nat.pow_add, ← Nat.mul_assoc, ← Nat.mul_assoc] at h1
      exact (Nat.eq_of_mul_eq_mul_right (Nat.two_pow_pos _) h1).symm
    refine (root_p false ad n cap x R e (-(P : Int)) w dx hT (by omega) (by omega) (by omega) (by rw [eM]; exact r1) (by rw [eM]; exact r2)).mono ?_
    rintro r w' ⟨hS, hG⟩
    refine ⟨?_, hG⟩
    have hU : RUp x (e - 2 * (-(P : Int))) R false = R := by
      unfold RUp
      rw [if_neg (by rintro ⟨h, _⟩; cases h)]
    rw [hU] at hS
    refine hS.dyv (lo := P) (k := j) ?_ (gd_un (by rw [Int.natAbs_natCast]; exact hR)) (by omega) (by omega) (by omega)
    have := sv_un false R P (by omega)
    simpa only [Bool.false_eq_true, if_false] using this
/-- the multiple of 2^-b below a worth, or above it -/
def cutI (V : Int) (b : Nat) (up : Bool) : Int := if up then -((-V) / Un b) else V / Un b
theorem neg_div {x d : Nat} (hd : 0 < d) (hx : x % d ≠ 0) : (-(x : Int)) / (d : Int) = -((x / d : Nat) + 1 : Int) := by
  have h1 := Nat.div_add_mod x d
  have h2 := Nat.mod_lt x hd
  refine ((Int.ediv_emod_unique (a := -(x : Int)) (b := (d : Int)) (r := (d : Int) - (x % d : Nat)) (q := -((x / d : Nat) + 1 : Int)) (by omega)).2 ⟨?_, by omega, by omega⟩).1
  have h3 : ((d * (x / d) + x % d : Nat) : Int) = (x : Int) := by rw [h1]
  rw [Int.natCast_add, Int.natCast_mul] at h3
  rw [Int.mul_neg, Int.mul_add, Int.mul_one]
  omega
theorem cut_num (s up : Bool) (x t b : Nat) (e : Int) (ht : 0 < t) (hx : x % 2 = 1) (he : 0 ≤ e + KK) (hb : -(b : Int) = e + t) (hb2 : b ≤ 1000000) :
    cutI (sv KK s x e) b up = (if s then -((if up == s then x / 2 ^ t else x / 2 ^ t + 1 : Nat) : Int) else ((if up == s then x / 2 ^ t else x / 2 ^ t + 1 : Nat) : Int)) := by
  have hkk := KK_eq
  have hkn := KN_eq
  have hU : Un b = ((2 ^ t : Nat) : Int) * ((2 ^ (e + KK).toNat : Nat) : Int) := by
    unfold Un
    rw [← Int.natCast_mul, ← Nat.pow_add]
    congr 2
    omega
  have hA : (0 : Int) < ((2 ^ (e + KK).toNat : Nat) : Int) := Int.ofNat_lt.2 (Nat.two_pow_pos _)
  have hd : 0 < 2 ^ t := Nat.two_pow_pos t
  have hm : x % 2 ^ t ≠ 0 := fun h => by
    obtain ⟨u, rfl⟩ : ∃ u, t = u + 1 := ⟨t - 1, by omega⟩
    have h1 := Nat.div_add_mod x (2 ^ (u + 1))
    rw [h, Nat.pow_succ, Nat.mul_comm (2 ^ u) 2, Nat.mul_assoc] at h1
    omega
  have hp : (x : Int) / ((2 ^ t : Nat) : Int) = ((x / 2 ^ t : Nat) : Int) := (Int.natCast_ediv x (2 ^ t)).symm
  have hn := neg_div hd hm
  have key : ∀ X : Int, (X * ((2 ^ (e + KK).toNat : Nat) : Int)) / (((2 ^ t : Nat) : Int) * ((2 ^ (e + KK).toNat : Nat) : Int)) = X / ((2 ^ t : Nat) : Int) := fun X => Int.mul_ediv_mul_of_pos_left X _ hA
  unfold cutI sv
  rw [hU]
  cases s <;> cases up
  · show ((x * 2 ^ (e + KK).toNat : Nat) : Int) / _ = ((x / 2 ^ t : Nat) : Int)
    rw [Int.natCast_mul, key, hp]
  · show -((-((x * 2 ^ (e + KK).toNat : Nat) : Int)) / _) = ((x / 2 ^ t + 1 : Nat) : Int)
    rw [Int.natCast_mul, ← Int.neg_mul, key, hn, Int.neg_neg]
    rfl
  · show (-((x * 2 ^ (e + KK).toNat : Nat) : Int)) / _ = -((x / 2 ^ t + 1 : Nat) : Int)
    rw [Int.natCast_mul, ← Int.neg_mul, key, hn]
    rfl
  · show -((-(-((x * 2 ^ (e + KK).toNat : Nat) : Int))) / _) = -((x / 2 ^ t : Nat) : Int)
    rw [Int.neg_neg, Int.natCast_mul, key, hp]
theorem cutI_mul (m : Int) (b : Nat) (up : Bool) : cutI (m * Un b) b up = m := by
  have h := Int.ne_of_gt (Un_pos b)
  unfold cutI
  cases up
  · exact Int.mul_ediv_cancel m h
  · show -((-(m * Un b)) / Un b) = m
    rw [← Int.neg_mul, Int.mul_ediv_cancel _ h, Int.neg_neg]
theorem cutI_un (C : Int) (P b : Nat) (up : Bool) (h : b ≤ P) (hP : P ≤ 1000000) : cutI (C * Un P) b up = if up then -((-C) / ((2 ^ (P - b) : Nat) : Int)) else C / ((2 ^ (P - b) : Nat) : Int) := by
  have hp := Un_pos P
  unfold cutI
  rw [Un_split h hP]
  cases up
  · exact Int.mul_ediv_mul_of_pos_left C _ hp
  · show -((-(C * Un P)) / _) = -((-C) / _)
    rw [← Int.neg_mul, Int.mul_ediv_mul_of_pos_left (-C) _ hp]
theorem cutD (s up : Bool) (ad : Option Addr) (n cap : Nat) (e V : Int) (b lo k : Nat) (w : World) (d : DyV w s ad n cap e V) (hT : TabAt 1 Lib.deBruijn64tab w) (gV : Gd lo k V) (hlo : lo ≤ 100000) (hk : k < 200000) (hb : b ≤ 100000) :
    Calls Tryz.prog 14 #[.agg #[.bool s, .slice ad n cap, .int .i64 e], .int .i64 (-(b : Int)), .bool up] w fun r w' => DvT w' r (cutI V b up * Un b) ∧ Gr w w' := by
  have hkk := KK_eq
  have hkn := KN_eq
  have hs := d.sign
  obtain ⟨x, dx, hV⟩ := d
  have e1 := dx.low
  have e2 := dx.high
  cases n with
  | zero =>
    have hV0 : V = 0 := hs.2.2.1.1 rfl
    refine (cut_z s up ad 0 cap x e _ w dx hT (by omega) (by omega)).mono ?_
    rintro r w' ⟨hS, hG⟩
    refine ⟨?_, hG⟩
    have h0 : cutI V b up * Un b = V := by
      have := cutI_mul 0 b up
      rw [Int.zero_mul] at this
      rw [hV0, this, Int.zero_mul]
    rw [h0]
    exact hS.dyv (lo := lo) (k := k) hV gV (by omega) hlo (by omega)
  | succ n =>
    have x0 : x ≠ 0 := fun h => by
      have := dx.lim
      rw [h] at this
      have := lim_zero this
      omega
    obtain ⟨q, hq, -, -⟩ : ∃ q, x = 2 * q + 1 ∧ -1048576 ≤ e ∧ e ≤ 1048576 := by
      rcases dx.right with ⟨h, _⟩ | h
      · exact absurd h x0
      · exact h
    rcases Int.lt_or_le e (-(b : Int)) with hel | hel
    · obtain ⟨t, ht⟩ : ∃ t : Nat, -(b : Int) - e = (t : Int) := ⟨(-(b : Int) - e).toNat, by omega⟩
      have ho := gd_odd (t := 0) (s := s) (q := q) (e := e) (by rw [Nat.pow_zero, Nat.one_mul, ← hq]; exact hV) gV (by omega) (by omega)
      have hn := cut_num s up x t b e (by omega) (by omega) (by omega) (by omega) (by omega)
      rw [hV] at hn
      have hxk : x / 2 ^ t + 1 < 2 ^ (k + 1) := by
        have := Nat.div_le_self x (2 ^ t)
        have h2 := ho.2.2
        rw [← hq] at h2
        rw [Nat.pow_succ]
        omega
      have fin : ∀ (m : Nat), m < 2 ^ (k + 1) → (if up == s then x / 2 ^ t else x / 2 ^ t + 1 : Nat) = m → ∀ w' r, Settled w' r s m (-(b : Int)) → DvT w' r (cutI V b up * Un b) := by
        intro m hm he w' r hS
        rw [he] at hn
        refine hS.dyv (lo := b) (k := k + 1) (by rw [hn]; exact sv_un s m b (by omega)) (gd_un ?_) (by omega) (by omega) (by omega)
        rw [hn]
        cases s
        · exact hm
        · show (-(m : Int)).natAbs < _
          rw [Int.natAbs_neg]
          exact hm
      cases hus : (up == s)
      · refine (cut_p s up hus ad n cap x t e _ w dx hT (by omega) (by omega) hel ht).mono ?_
        rintro r w' ⟨hS, hG⟩
        exact ⟨fin _ hxk (by rw [hus]; rfl) w' r hS, hG⟩
      · refine (cut_m s up hus ad n cap x t e _ w dx hT (by omega) (by omega) hel ht).mono ?_
        rintro r w' ⟨hS, hG⟩
        exact ⟨fin _ (by omega) (by rw [hus]; rfl) w' r hS, hG⟩
    · refine (cut_f s up ad n cap x e _ w dx hT (by omega) (by omega) hel).mono ?_
      rintro r w' ⟨hS, hG⟩
      refine ⟨?_, hG⟩
      have h0 : cutI V b up * Un b = V := by
        obtain ⟨t, ht⟩ : ∃ t : Nat, e + (b : Int) = (t : Int) := ⟨(e + (b : Int)).toNat, by omega⟩
        have h1 := sv_shift KK s x e t (by omega)
        rw [show e - (t : Int) = -(b : Int) by omega, sv_un s x b (by omega), hV, ← Int.mul_assoc] at h1
        rw [h1, cutI_mul]
      rw [h0]
      exact hS.dyv (lo := lo) (k := k) hV gV (by omega) hlo (by omega)
end Go.Proofs.YthilajhciifhaaaGreatDoor
