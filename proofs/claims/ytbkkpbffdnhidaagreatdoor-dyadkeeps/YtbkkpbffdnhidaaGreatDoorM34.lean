import Derived.Test.YtbkkpbffdnhidaaGreatDoorM33
import Derived.Test.YtbkkpbffdnhidaaGreatDoorM31
import Derived.Test.YtbkkpbffdnhidaaGreatDoorM29
import Derived.Test.YtbkkpbffdnhidaaGreatDoorM12
import Derived.Test.YtbkkpbffdnhidaaGreatDoorM19
import Derived.Test.YtbkkpbffdnhidaaGreatDoorM21
import Derived.Test.YtbkkpbffdnhidaaGreatDoorM30
import Derived.Deep.RegionHeld3
namespace Go.Proofs.YtbkkpbffdnhidaaGreatDoor.Fl
open Go.RowKit
open Ieee
set_option linter.unusedVariables false

theorem float_num (s : Bool) (ad : Option Addr) (n cap x N t : Nat) (e last : Int) (w : World) (dx : DyAt w s ad (n + 1) cap e x) (x0 : 0 < x) (hlast : max ((bl x : Int) + e - 53) (-1074) = last) (ht : (t : Int) = last + 1074) (hN : N ≤ 9007199254740992) (hN2 : t = 0 ∨ 4503599627370496 ≤ N) (hl : last ≤ 4000000)
    (H48 : Hid (∀ w1, Gr w w1 → Calls Tryz.prog 51 #[.slice ad (n + 1) cap, .int .i64 (last - e)] w1 fun r w' => r = .returned (.int .u64 (N : Int)) ∧ Gr w1 w')) :
    (t * 4503599627370496 + N < 9218868437227405312 → Calls Tryz.prog 15 #[.agg #[.bool s, .slice ad (n + 1) cap, .int .i64 e]] w fun r w' => r = .returned (.tuple #[.float .f64 (W s (t * 4503599627370496 + N)), .int .i64 0]) ∧ Gr w w') ∧
    (9218868437227405312 ≤ t * 4503599627370496 + N → Calls Tryz.prog 15 #[.agg #[.bool s, .slice ad (n + 1) cap, .int .i64 e]] w fun r w' => r = .returned (.tuple #[.float .f64 0, .int .i64 6]) ∧ Gr w w') := by
  have A46 : Hid (∀ w, Calls Tryz.prog 50 #[.float .f64 (floatOfInt FloatKind.f64 (N : Int)), .int .i64 last] w fun e w' => e = .returned (.float .f64 (min (t * 4503599627370496 + N) 9218868437227405312)) ∧ w' = w) := by
    obtain ⟨hMM, _, _⟩ := rung_near t N hN hN2
    intro w
    clear H48 dx hlast
    rw [floatOfInt_W (N : Int) (by omega), show decide ((N : Int) < 0) = false from decide_eq_false (by omega), show ((N : Int)).natAbs = N by omega]
    by_cases h0 : N = 0
    · subst h0
      obtain rfl : t = 0 := by rcases hN2 with h | h; exact h; exact absurd h (by decide)
      have hz : ofN 0 = 0 := M_inj ((ofN_spec 0 (by omega)).1.trans (by rw [Nat.zero_mul, M_zero]))
      rw [hz]
      have := ldexp_same (W false 0) last w (by rw [zeroB_W false 0 (by omega)]; rfl)
      exact this
    · exact ldexpN (ofN N) N (t * 4503599627370496 + N) t last (by omega) (ofN_spec N (by omega)).2.1 (ofN_spec N (by omega)).1 ht (by omega) hMM w
  have hI9 : pinfB (absN 9218868437227405312) = true := by
    have h1 := abs_W false 9218868437227405312 (by omega)
    rw [show W false 9218868437227405312 = 9218868437227405312 from rfl] at h1
    have h2 := pinfB_W false 9218868437227405312 (by omega)
    rw [show W false 9218868437227405312 = 9218868437227405312 from rfl] at h2
    exact (congrArg pinfB h1).trans h2
  constructor
  · intro hf
    rw [Nat.min_eq_left (by omega)] at A46
    obtain ⟨y, hy⟩ : ∃ y, y = t * 4503599627370496 + N := ⟨_, rfl⟩
    rw [← hy] at A46 hf ⊢
    have hI : pinfB (absN y) = false := by
      have h1 := abs_W false y (by omega)
      rw [show W false y = y from rfl] at h1
      rw [h1]
      have h2 := pinfB_W false y (by omega)
      rw [show W false y = y from rfl] at h2
      rw [h2, decide_eq_false (by omega)]; rfl
    cases s
    · exact float22p ad n cap x N y e last w dx x0 hlast H48 A46 hI
    · have := float22n ad n cap x N y e last w dx x0 hlast H48 A46 hI
      rw [copyN_t _ (by omega)] at this
      exact this
  · intro hf
    rw [Nat.min_eq_right (by omega)] at A46
    exact float22o s ad n cap x N 9218868437227405312 e last w dx x0 hlast H48 A46 hI9
theorem floatA (s : Bool) (ad : Option Addr) (n cap : Nat) (e : Int) (w : World) (R : Hid (∀ w1, Gr w w1 → Calls Tryz.prog 44 #[.agg #[.bool s, .slice ad n cap, .int .i64 e]] w1 fun r w' => r = .returned (.bool false) ∧ Gr w1 w')) :
    Calls Tryz.prog 15 #[.agg #[.bool s, .slice ad n cap, .int .i64 e]] w fun r w' => r = .returned (.tuple #[.float .f64 0, .int .i64 2]) ∧ Gr w w' := by
  have G0 : Gr w (w.alloc (.cells #[.bool s, .slice ad n cap, .int .i64 e] 24)) := (Gr.refl w).alloc _
  go_enter Tryz.func15, Tryz.ntmps15
  go_wp2_with (go_at_call 44; (with_reducible refine (R.out _ G0).mono ?_); rintro r w1 ⟨rfl, g1⟩)
  go_ret2
  exact ⟨rfl, G0.trans g1⟩
theorem float_z (s : Bool) (ad : Option Addr) (cap : Nat) (e : Int) (w : World) (R : Hid (∀ w1, Gr w w1 → Calls Tryz.prog 44 #[.agg #[.bool s, .slice ad 0 cap, .int .i64 e]] w1 fun r w' => r = .returned (.bool true) ∧ Gr w1 w')) :
    Calls Tryz.prog 15 #[.agg #[.bool s, .slice ad 0 cap, .int .i64 e]] w fun r w' => r = .returned (.tuple #[.float .f64 0, .int .i64 0]) ∧ Gr w w' := by
  have G0 : Gr w (w.alloc (.cells #[.bool s, .slice ad 0 cap, .int .i64 e] 24)) := (Gr.refl w).alloc _
  have P0 := hide (first_block w (.cells #[.bool s, .slice ad 0 cap, .int .i64 e] 24))
  go_enter Tryz.func15, Tryz.ntmps15
  go_wp2_with (go_at_call 44; (with_reducible refine (R.out _ G0).mono ?_); rintro r w1 ⟨rfl, g1⟩; have P1 := g1.keepH P0.out; obtain ⟨x0, x1, x2⟩ := cells_ofT P1)
  go_ret2
  exact ⟨rfl, G0.trans g1⟩
set_option maxHeartbeats 2000000 in
/-- Float tells something, of every right dyad that is not 0 -/
theorem float_p (s : Bool) (ad : Option Addr) (n cap q : Nat) (e : Int) (w : World) (dx : DyAt w s ad (n + 1) cap e (2 * q + 1)) : Calls Tryz.prog 15 #[.agg #[.bool s, .slice ad (n + 1) cap, .int .i64 e]] w fun r w' => (∃ v, r = .returned v) ∧ Gr w w' := by
  have hkk := KK_eq
  have hle := dx.le
  have hel := dx.low
  have heh := dx.high
  have hbx := dx.bl
  obtain ⟨L, hL⟩ : ∃ L, L = bl (2 * q + 1) := ⟨_, rfl⟩
  have hx1 : 2 * q + 1 < 2 ^ L := hL ▸ bl_lt _
  have hx2 : 2 ^ L ≤ 2 * (2 * q + 1) := hL ▸ bl_le (by omega)
  have hL0 : 0 < L := Nat.pos_of_ne_zero fun h => by rw [h] at hx1; simp at hx1
  rw [← hL] at hbx
  obtain ⟨last, hlast⟩ : ∃ last : Int, last = max ((L : Int) + e - 53) (-1074) := ⟨_, rfl⟩
  obtain ⟨t, ht⟩ : ∃ t : Nat, (t : Int) = last + 1074 := ⟨(last + 1074).toNat, by omega⟩
  obtain ⟨N, hN, hN2, H48⟩ : ∃ N : Nat, N ≤ 9007199254740992 ∧ (t = 0 ∨ 4503599627370496 ≤ N) ∧
      (∀ w1, Gr w w1 → Calls Tryz.prog 51 #[.slice ad (n + 1) cap, .int .i64 (last - e)] w1 fun r w' => r = .returned (.int .u64 (N : Int)) ∧ Gr w1 w') := by
    by_cases hb : last - e ≤ 0
    · obtain ⟨k, hk⟩ : ∃ k : Nat, (k : Int) = e - last := ⟨(e - last).toNat, by omega⟩
      have hlt : (2 * q + 1) * 2 ^ k < 9007199254740992 := by
        have h1 : (2 * q + 1) * 2 ^ k < 2 ^ L * 2 ^ k := Nat.mul_lt_mul_of_pos_right hx1 (Nat.two_pow_pos k)
        rw [← Nat.pow_add] at h1
        have h2 : 2 ^ (L + k) ≤ 2 ^ 53 := Nat.pow_le_pow_right (by omega) (by omega)
        omega
      have hge : 0 < t → 4503599627370496 ≤ (2 * q + 1) * 2 ^ k := fun h0 => by
        have h1 : 2 ^ L * 2 ^ k ≤ 2 * (2 * q + 1) * 2 ^ k := Nat.mul_le_mul_right _ hx2
        rw [← Nat.pow_add, show L + k = 53 by omega, Nat.mul_assoc] at h1
        omega
      refine ⟨(2 * q + 1) * 2 ^ k, by omega, ?_, fun w1 g => nearest48z ad (n + 1) cap (2 * q + 1) k _ w1 (dx.lim.gr g) (by omega) (by omega) (by omega) (by omega) (by omega)⟩
      by_cases h0 : t = 0
      · exact Or.inl h0
      · exact Or.inr (hge (by omega))
    · obtain ⟨b, hb2⟩ : ∃ b : Nat, (b : Int) = last - e := ⟨(last - e).toNat, by omega⟩
      have hlt : (2 * q + 1) / 2 ^ b < 9007199254740992 := by
        rw [Nat.div_lt_iff_lt_mul (Nat.two_pow_pos b)]
        have h2 : 2 ^ L ≤ 2 ^ (53 + b) := Nat.pow_le_pow_right (by omega) (by omega)
        rw [Nat.pow_add] at h2
        have : (2 : Nat) ^ 53 = 9007199254740992 := rfl
        rw [this] at h2
        omega
      have hup : (upB (2 * q + 1) b).toNat ≤ 1 := by cases upB (2 * q + 1) b <;> decide
      have hge : 0 < t → 4503599627370496 * 2 ^ b ≤ 2 * q + 1 := fun h0 => by
        have h1 : L = 53 + b := by omega
        rw [h1, Nat.pow_add] at hx2
        have : (2 : Nat) ^ 53 = 2 * 4503599627370496 := rfl
        rw [this, Nat.mul_assoc] at hx2
        omega
      refine ⟨(2 * q + 1) / 2 ^ b + (upB (2 * q + 1) b).toNat, by omega, ?_, fun w1 g => ?_⟩
      · by_cases h0 : t = 0
        · exact Or.inl h0
        · have := (Nat.le_div_iff_mul_le (Nat.two_pow_pos b)).2 (hge (by omega))
          exact Or.inr (by omega)
      · have := nearest48p ad (n + 1) cap (2 * q + 1) b w1 (dx.lim.gr g) (by omega) (by omega) (by omega) (by omega)
        rw [hb2] at this
        exact this
  have F := float_num s ad n cap (2 * q + 1) N t e last w dx (by omega) (by rw [← hL]; exact hlast.symm) ht hN hN2 (by omega) H48
  by_cases hf : t * 4503599627370496 + N < 9218868437227405312
  · exact (F.1 hf).mono (by rintro r w' ⟨rfl, h⟩; exact ⟨⟨_, rfl⟩, h⟩)
  · exact (F.2 (by omega)).mono (by rintro r w' ⟨rfl, h⟩; exact ⟨⟨_, rfl⟩, h⟩)
theorem float_any (s : Bool) (ad : Option Addr) (n c : Nat) (e : Int) (xs : List Nat) (w : World) (r1 : Row w ad n c xs) (h1 : ∀ x ∈ xs, x < 18446744073709551616) : ∀ w1, Gr w w1 → Calls Tryz.prog 15 #[.agg #[.bool s, .slice ad n c, .int .i64 e]] w1 fun r w' => (∃ v, r = .returned v) ∧ Gr w1 w' := by
  intro w1 g
  by_cases q1 : RightD s xs e
  · have dx := (dyAt_of r1 h1 q1).gr g
    cases n with
    | zero => exact (float_z s ad c e w1 dx.r26).mono (by rintro r w' ⟨rfl, h⟩; exact ⟨⟨_, rfl⟩, h⟩)
    | succ n =>
      have h0 : 0 < nv 18446744073709551616 xs := by
        obtain ⟨ys, ry, dy⟩ := dx.lim
        refine Nat.pos_of_ne_zero fun hz => ?_
        have := (dy.zero_iff (by omega)).2 hz
        rw [ry.len] at this
        omega
      obtain ⟨q, hq⟩ : ∃ q, nv 18446744073709551616 xs = 2 * q + 1 := by rcases dx.odd with h | h; omega; exact h
      rw [hq] at dx
      exact float_p s ad n c q e w1 dx
  · exact (floatA s ad n c e w1 (r35f s ad n c e xs w1 (r1.gr g) h1 q1)).mono (by rintro r w' ⟨rfl, h⟩; exact ⟨⟨_, rfl⟩, h⟩)
/-- Int(7), in new memory -/
theorem int_seven (w : World) (hT : TabAt 1 Lib.deBruijn64tab w) : Calls Tryz.prog 18 #[.int .i64 7] w fun r w' => (∃ a ad n cap f, r = .returned (.agg #[.bool a, .slice ad n cap, .int .i64 f]) ∧ Fresh w.heap.size w' ad n cap ∧ n ≤ 4096) ∧ Gr w w' := by
  refine (int10p 7 7 w (by omega) rfl (by omega) hT).mono ?_
  rintro r w' ⟨a, b, c, d, f, g, rfl, hS, hg⟩
  obtain ⟨a', ad', n', cap', f', g', he, hF⟩ := hS.out.new
  simp only [Ending.returned.injEq, Value.tuple.injEq, Array.mk.injEq, List.cons.injEq, Value.agg.injEq, Value.slice.injEq, and_true] at he
  obtain ⟨⟨_, ⟨rfl, rfl, rfl⟩, _⟩, _⟩ := he
  exact ⟨⟨_, _, _, _, _, rfl, hF⟩, hg⟩
end Go.Proofs.YtbkkpbffdnhidaaGreatDoor.Fl
namespace Go.Proofs.YtbkkpbffdnhidaaGreatDoor.Fl
open Go.RowKit
open Ieee
set_option linter.unusedVariables false

theorem frexp_tenth (w : World) : Calls Tryz.prog 57 #[.float .f64 4591870180066957722] w fun e w' => e = .returned (.tuple #[.float .f64 4605380978949069210, .int .i64 (-3)]) ∧ w' = w :=
  frexp69 _ _ _ w fun w => frexp85 4591870180066957722 4591870180066957722 4605380978949069210 1019 2702159776422298 0 w (by decide +kernel) (by decide +kernel) (by decide +kernel) (fun w => norm81 _ w (by decide +kernel)) (Or.inl rfl) (by omega) (by decide +kernel) (by decide +kernel) (by decide +kernel)
theorem ldexp_tenth (w : World) : Calls Tryz.prog 50 #[.float .f64 4605380978949069210, .int .i64 53] w fun e w' => e = .returned (.float .f64 4844071759199705498) ∧ w' = w :=
  ldexp71 _ _ _ w fun w => ldexp87 4605380978949069210 4605380978949069210 4844071759199705498 2702159776422298 53 0 1022 52 w (by decide +kernel) (by decide +kernel) (by decide +kernel) (fun w => norm81 _ w (by decide +kernel)) (by omega) (by omega) (by omega) (by omega) (by decide +kernel) (by omega) (by omega) (by omega) (by omega) (by omega) (by decide +kernel) (by decide +kernel) (by decide +kernel)
/-- Of(0.1), in new memory -/
theorem of_tenth (w : World) (hT : TabAt 1 Lib.deBruijn64tab w) : Calls Tryz.prog 17 #[.float .f64 4591870180066957722] w fun r w' => NewR w.heap.size w' r ∧ Gr w w' :=
  (of4N 4591870180066957722 4605380978949069210 4844071759199705498 7205759403792794 false (-3) w (by decide +kernel) (by decide +kernel) (fun w => frexp_tenth w) (by rw [show absN 4605380978949069210 = 4605380978949069210 by decide +kernel]; exact fun w => ldexp_tenth w) (fun w => run_convert_float_int (P := Tryz.prog) w 36 49 .f64 .u64 _ _ (by kernel_rfl) (by kernel_rfl) (by decide +kernel)) (by decide +kernel) (by omega) (by omega) (by omega) hT).mono (fun r w' h => ⟨h.1.new, h.2⟩)
end Go.Proofs.YtbkkpbffdnhidaaGreatDoor.Fl
namespace Go.Proofs.YtbkkpbffdnhidaaGreatDoor
open Go.RowKit
set_option linter.unusedVariables false

theorem pick128 (x : Int) (w : World) : Calls Tryz.prog 7 #[.int .i64 x, .int .i64 128] w fun r w' => ∃ p : Int, r = .returned (.int .i64 p) ∧ 0 ≤ p ∧ p ≤ 127 ∧ w' = w := by
  have b1 : -128 < x.tmod 128 := by have := Int.lt_tmod_of_pos x (by omega : (0 : Int) < 128); omega
  have b2 : x.tmod 128 < 128 := Int.tmod_lt_of_pos x (by omega)
  have h8 : ((128 : Int) == 0) = false := by decide
  generalize hy : x.tmod 128 = y at *
  by_cases hn : y < 0
  · go_enter Tryz.func7, Tryz.ntmps7
    go_wp2
    go_ret
    exact ⟨_, rfl, by omega, by omega, rfl⟩
  · go_enter Tryz.func7, Tryz.ntmps7
    go_wp2
    go_ret
    exact ⟨_, rfl, by omega, by omega, rfl⟩
theorem row_of_lent {W : World} {base g n : Nat} {xs zs : List Nat} (hl : xs.length = n) (ho : W.ownsRow base 49 1 (.slice (some ⟨g, 0, none⟩) (n + 12) (n + 12)) (n + 12) (u64s (xs ++ zs))) : Row W (some ⟨g, 0, none⟩) n (n + 12) xs := by
  have h1 := ownsU_less ho (show n ≤ n + 12 by omega)
  rw [List.take_append_of_le_length (by omega), List.take_of_length_le (by omega)] at h1
  obtain ⟨ad', cap', e', h2⟩ := Row.of_owns h1
  injection e' with e1 e2 e3
  rw [e1, e3]
  exact h2
theorem great_n {n : Nat} {e : Int} (h : greatB n e = false) : n ≤ 64 := by
  simp [greatB] at h
  omega
set_option maxRecDepth 20000 in
set_option maxHeartbeats 8000000 in
theorem keeps3 (s t : Bool) (ad1 ad2 : Option Addr) (n1 n2 c1 c2 : Nat) (e f last : Int) (xs ys : List Nat) (w : World) (r1 : Row w ad1 n1 c1 xs) (r2 : Row w ad2 n2 c2 ys) (h1 : ∀ x ∈ xs, x < 18446744073709551616) (h2 : ∀ x ∈ ys, x < 18446744073709551616) (hT : TabAt 1 Lib.deBruijn64tab w) :
    Calls Tryz.prog 3 #[.agg #[.bool s, .slice ad1 n1 c1, .int .i64 e], .agg #[.bool t, .slice ad2 n2 c2, .int .i64 f], .int .i64 last] w fun r w' => r = .returned (.bool true) ∧ Gr w w' := by
  have AW : Hid (∀ w1, Gr w w1 → Calls Tryz.prog 6 #[] w1 fun r w' => r = .returned (.bool true) ∧ Gr w1 w') := fun w1 g => awake7 w1 (tab_gr hT g)
  have TB : Hid _ := two_blocks w (.bool s) (.slice ad1 n1 c1) (.int .i64 e) (.bool t) (.slice ad2 n2 c2) (.int .i64 f) _ rfl
  have G1 : Hid (∀ w1, Calls Tryz.prog 5 #[.agg #[.bool s, .slice ad1 n1 c1, .int .i64 e]] w1 fun r w' => r = .returned (.bool (greatB n1 e)) ∧ Gr w1 w') := fun w1 => great4 s ad1 n1 c1 e w1
  have G2 : Hid (∀ w1, Calls Tryz.prog 5 #[.agg #[.bool t, .slice ad2 n2 c2, .int .i64 f]] w1 fun r w' => r = .returned (.bool (greatB n2 f)) ∧ Gr w1 w') := fun w1 => great4 t ad2 n2 c2 f w1
  cases ha : greatB n1 e
  · cases hb : greatB n2 f
    · rw [ha] at G1
      rw [hb] at G2
      have tok : True := trivial
      go_enter Tryz.func3, Tryz.ntmps3
      go_wp2_with (first | (go_at_call 5; have _t := tok; (with_reducible refine (G1.out _).mono ?_); rintro r w1 ⟨rfl, g1⟩; clear tok; have k := keep6 g1 TB.out; have k0 := k.1.1; have k1 := k.1.2.1; have k2 := k.1.2.2.1; have k3 := k.1.2.2.2.1; have k4 := k.1.2.2.2.2.1; have k5 := k.1.2.2.2.2.2) | (go_at_call 5; (with_reducible refine (G2.out _).mono ?_); rintro r w2 ⟨rfl, g2⟩; have j0 := g2.keep k0; have j1 := g2.keep k1; have j2 := g2.keep k2; have j3 := g2.keep k3; have j4 := g2.keep k4; have j5 := g2.keep k5; clear k0 k1 k2 k3 k4 k5) | (go_at_call 7; (with_reducible refine (pick128 _ _).mono ?_); rintro r w3 ⟨lp, rfl, hp1, hp2, rfl⟩))
      have LX : Hid (∀ w1, Gr w3 w1 → Calls Tryz.prog 8 #[.agg #[.bool s, .slice ad1 n1 c1, .int .i64 e]] w1 fun r w' => ∃ g, r = .returned (.agg #[.bool s, .slice (some ⟨g, 0, none⟩) n1 (n1 + 12), .int .i64 e]) ∧ w'.ownsRow w1.heap.size 49 1 (.slice (some ⟨g, 0, none⟩) (n1 + 12) (n1 + 12)) (n1 + 12) (u64s (xs ++ ml 1 12)) ∧ Gr w1 w') := fun w1 g => lentD8 s ad1 n1 c1 e xs w1 (by have := great_n ha; omega) ((r1.gr (k.2.trans g2)).gr g)
      have LY : Hid (∀ w1, Gr w3 w1 → Calls Tryz.prog 8 #[.agg #[.bool t, .slice ad2 n2 c2, .int .i64 f]] w1 fun r w' => ∃ g, r = .returned (.agg #[.bool t, .slice (some ⟨g, 0, none⟩) n2 (n2 + 12), .int .i64 f]) ∧ w'.ownsRow w1.heap.size 49 1 (.slice (some ⟨g, 0, none⟩) (n2 + 12) (n2 + 12)) (n2 + 12) (u64s (ys ++ ml 1 12)) ∧ Gr w1 w') := fun w1 g => lentD8 t ad2 n2 c2 f ys w1 (by have := great_n hb; omega) ((r2.gr (k.2.trans g2)).gr g)
      have G3 := hide (k.2.trans g2)
      have la0 : w3.heap[w.heap.size]? = some (.cells #[.bool s, .slice ad1 n1 c1, .int .i64 e] 24) := g2.keepH (g1.keepH (((Gr.refl _).alloc _).keepH (new_block w _)))
      have lb0 : w3.heap[w.heap.size + 1]? = some (.cells #[.bool t, .slice ad2 n2 c2, .int .i64 f] 24) := g2.keepH (g1.keepH (second_block w _ _))
      refine Code.wp_mono ?_ (reg4 _ _ _ _ _ _ _ _ _ _ _ _ _ _ _ _ _ _ _ _ _ _ _ _ _ _ _ _ _ _ _ _ _ _ _ _ _ _ _ _ _ _ _ _ _ _ _ _ _ _ _ _ _ _ _ _ _ _ _ _ _ _ _ _ _ _ _ _ _ _ _ _ _ _ _ _ _ _ _ _ _ _ _ _ _ _ _ _ _ _ _ _ _ _ _ _ _ _ _ _ _ _ _ _ _ _ _ _ _ _ _ _ _ _ _ _ _ _ _ _ _ _ _ _ _ _ _ _ _ _ _ _ _ _ _ _ _ _ _ _ _ _ _ _ _ _ _ _ _ _ _ _ _ _ _ _ _ _ s t ad1 ad2 n1 n2 c1 c2 e f xs ys w.heap.size (w.heap.size + 1) w3 LX LY j0 j1 j2 j3 j4 j5)
      intro ex ac W hR
      cases ex
      case normal =>
        obtain ⟨gx, gy, bx, bz, rfl, ox, oy, hbx, hbz, hgxy, lbx, lbz, gW⟩ := hR
        have G1W := hide (G3.out.trans gW)
        have twx : Tw W w s (some ⟨gx, 0, none⟩) ad1 n1 (n1 + 12) c1 e xs := ⟨row_of_lent r1.len ox, r1, h1⟩
        have twy : Tw W w t (some ⟨gy, 0, none⟩) ad2 n2 (n2 + 12) c2 f ys := ⟨row_of_lent r2.len oy, r2, h2⟩
        have hTW := tab_gr hT G1W.out
        obtain ⟨SA, XA, EA, GA, ADD, RADD⟩ := add_both s t _ ad1 _ ad2 n1 n2 _ c1 _ c2 e f xs ys W w twx twy hTW
        obtain ⟨SN, XN, EN, GN, NEG, RNEG⟩ := neg_both s _ ad1 n1 _ c1 e xs W w twx hTW
        have ADD := hide ADD
        have RADD := hide RADD
        have NEG := hide NEG
        have RNEG := hide RNEG
        have SUB := hide (sub_new s t _ _ n1 n2 _ _ e f xs ys W twx.row twy.row h1 h2 hTW)
        have MUL := hide (mul_new s t _ _ n1 n2 _ _ e f xs ys W twx.row twy.row h1 h2 hTW)
        have SCA := hide (scale_new s _ n1 _ e 3 xs W twx.row h1 hTW (by omega) (by omega))
        have CUT : Hid (∀ up w1, Gr W w1 → Calls Tryz.prog 14 #[.agg #[.bool s, .slice (some ⟨gx, 0, none⟩) n1 (n1 + 12), .int .i64 e], .int .i64 (lp - 64), .bool up] w1 fun r w' => NewR w1.heap.size w' r ∧ Gr w1 w') := fun up => cut_new s up _ n1 _ e (lp - 64) xs W twx.row h1 hTW (by omega) (by omega)
        have FLO := hide (Fl.float_any s _ n1 _ e xs W twx.row h1)
        have CMP := hide (cmp_any s t _ _ n1 n2 _ _ e f xs ys W twx.row twy.row h1 h2)
        have OFT : Hid (∀ w1, Gr W w1 → Calls Tryz.prog 17 #[.float .f64 4591870180066957722] w1 fun r w' => NewR w1.heap.size w' r ∧ Gr w1 w') := fun w1 g => Fl.of_tenth w1 (tab_gr hTW g)
        have INT : Hid (∀ w1, Gr W w1 → Calls Tryz.prog 18 #[.int .i64 7] w1 fun r w' => (∃ a ad n cap f, r = .returned (.agg #[.bool a, .slice ad n cap, .int .i64 f]) ∧ Fresh w1.heap.size w' ad n cap ∧ n ≤ 4096) ∧ Gr w1 w') := fun w1 g => Fl.int_seven w1 (tab_gr hTW g)
        have HBX := hide hbx
        have HBZ := hide hbz
        have OX := hide ox
        have OY := hide oy
        have LB3 := hide lb0
        have LA := hide (gW.keepH la0)
        have LB := hide (gW.keepH lb0)
        have HT := hide hT
        have HR1 := hide r1
        have HR2 := hide r2
        have HX1 := hide h1
        have HX2 := hide h2
        have n64 := great_n ha
        have m64 := great_n hb
        have glx := (OX.out.lt gx rfl)
        have gly := (OY.out.lt gy rfl)
        clear twx twy hTW hbx hbz ox oy la0 lb0 hT r1 r2 h1 h2 ha hb LX LY j0 j1 j2 j3 j4 j5 g1 g2 k gW
        go_wp2
        go_loopw [9, 10] (fun lv i wr => ∃ kk : Nat, kk ≤ 2 ∧ i = .int .i64 (kk : Int) ∧ Hid (Rel8 W SA XA EA SN XN EN kk lv wr)) (fun _ i _ => 2 - (intOf i).toNat)
        case atStart => exact ⟨0, by omega, rfl, ⟨fun _ => .slice none 0 0, fun _ => .slice none 0 0, fun _ => 0, fun _ => 0, fun _ => [], fun _ => [], Dq.zero _ _ _ _ _ _ _ _ _, World.ownsRow_nil _ _ _ _, Gr.refl _, fun h => absurd h (by omega), fun h => absurd h (by omega)⟩⟩
        case round =>
          obtain ⟨kk, hk, rfl, hR⟩ := hrel
          by_cases hlt : kk < 2
          · obtain ⟨V, Us, nn, cc, zss, yss, hD, hL, hW, hA, hN⟩ := hR.out
            have hi1 : (kk : Int) < 2 := by omega
            have GQ0 := hide hW
            have HX0 := hide (hW.keepH HBX.out)
            have HY0 := hide (hW.keepH HBZ.out)
            obtain ⟨x00, x01, x02⟩ := cells_ofT HX0.out
            obtain ⟨y00, y01, y02⟩ := cells_ofT HY0.out
            have HDD := hide hD
            have HLL := hide hL
            have HAA := hide hA
            clear hD hL hW hA hN hR
            go_wp2_with (first | (go_at_call 9; (with_reducible refine (ADD.out _ GQ0.out).mono ?_); rintro r p1 ⟨a0, m0, k0, rfl, hl0, ⟨hf0, hn0⟩, g0⟩; have ga0 := g0.alloc (.cells #[.bool SA, .slice a0 m0 k0, .int .i64 EA] 24); have bb0 := hide (new_block p1 (.cells #[.bool SA, .slice a0 m0 k0, .int .i64 EA] 24)); have GQ1 := hide (GQ0.out.trans ga0); have HX1 := hide (ga0.keepH HX0.out); have HY1 := hide (ga0.keepH HY0.out); clear x00 x01 x02 y00 y01 y02; obtain ⟨x10, x11, x12⟩ := cells_ofT HX1.out; obtain ⟨y10, y11, y12⟩ := cells_ofT HY1.out) | (go_at_call 10; (with_reducible refine (SUB.out _ GQ1.out).mono ?_); rintro r p2 ⟨⟨s1, a1, m1, k1, e1, er1, rfl, hf1, hn1⟩, g1⟩; have ga1 := g1.alloc (.cells #[.bool s1, .slice a1 m1 k1, .int .i64 e1] 24); have bb1 := hide (new_block p2 (.cells #[.bool s1, .slice a1 m1 k1, .int .i64 e1] 24)); have GQ2 := hide (GQ1.out.trans ga1); have HX2 := hide (ga1.keepH HX1.out); have HY2 := hide (ga1.keepH HY1.out); clear x10 x11 x12 y10 y11 y12; obtain ⟨x20, x21, x22⟩ := cells_ofT HX2.out; obtain ⟨y20, y21, y22⟩ := cells_ofT HY2.out) | (go_at_call 11; (with_reducible refine (MUL.out _ GQ2.out).mono ?_); rintro r p3 ⟨⟨s2, a2, m2, k2, e2, er2, rfl, hf2, hn2⟩, g2⟩; have ga2 := g2.alloc (.cells #[.bool s2, .slice a2 m2 k2, .int .i64 e2] 24); have bb2 := hide (new_block p3 (.cells #[.bool s2, .slice a2 m2 k2, .int .i64 e2] 24)); have GQ3 := hide (GQ2.out.trans ga2); have HX3 := hide (ga2.keepH HX2.out); have HY3 := hide (ga2.keepH HY2.out); clear x20 x21 x22 y20 y21 y22; obtain ⟨x30, x31, x32⟩ := cells_ofT HX3.out; obtain ⟨y30, y31, y32⟩ := cells_ofT HY3.out) | (go_at_call 12; (with_reducible refine (NEG.out _ GQ3.out).mono ?_); rintro r p4 ⟨a3, m3, k3, rfl, hl3, ⟨hf3, hn3⟩, g3⟩; have ga3 := g3.alloc (.cells #[.bool SN, .slice a3 m3 k3, .int .i64 EN] 24); have bb3 := hide (new_block p4 (.cells #[.bool SN, .slice a3 m3 k3, .int .i64 EN] 24)); have GQ4 := hide (GQ3.out.trans ga3); have HX4 := hide (ga3.keepH HX3.out); have HY4 := hide (ga3.keepH HY3.out); clear x30 x31 x32 y30 y31 y32; obtain ⟨x40, x41, x42⟩ := cells_ofT HX4.out; obtain ⟨y40, y41, y42⟩ := cells_ofT HY4.out) | (go_at_call 13; (with_reducible refine (SCA.out _ GQ4.out).mono ?_); rintro r p5 ⟨⟨s4, a4, m4, k4, e4, er4, rfl, hf4, hn4⟩, g4⟩; have ga4 := g4.alloc (.cells #[.bool s4, .slice a4 m4 k4, .int .i64 e4] 24); have bb4 := hide (new_block p5 (.cells #[.bool s4, .slice a4 m4 k4, .int .i64 e4] 24)); have GQ5 := hide (GQ4.out.trans ga4); have HX5 := hide (ga4.keepH HX4.out); have HY5 := hide (ga4.keepH HY4.out); clear x40 x41 x42 y40 y41 y42; obtain ⟨x50, x51, x52⟩ := cells_ofT HX5.out; obtain ⟨y50, y51, y52⟩ := cells_ofT HY5.out) | (go_at_call 14; (with_reducible refine (CUT.out _ _ GQ5.out).mono ?_); rintro r p6 ⟨⟨s5, a5, m5, k5, e5, er5, rfl, hf5, hn5⟩, g5⟩; have ga5 := g5.alloc (.cells #[.bool s5, .slice a5 m5 k5, .int .i64 e5] 24); have bb5 := hide (new_block p6 (.cells #[.bool s5, .slice a5 m5 k5, .int .i64 e5] 24)); have GQ6 := hide (GQ5.out.trans ga5); have HX6 := hide (ga5.keepH HX5.out); have HY6 := hide (ga5.keepH HY5.out); clear x50 x51 x52 y50 y51 y52; obtain ⟨x60, x61, x62⟩ := cells_ofT HX6.out; obtain ⟨y60, y61, y62⟩ := cells_ofT HY6.out) | (go_at_call 15; (with_reducible refine (FLO.out _ GQ6.out).mono ?_); rintro r p7 ⟨⟨v6, rfl⟩, g6⟩; have ga6 := g6; have GQ7 := hide (GQ6.out.trans ga6); have HX7 := hide (ga6.keepH HX6.out); have HY7 := hide (ga6.keepH HY6.out); clear x60 x61 x62 y60 y61 y62; obtain ⟨x70, x71, x72⟩ := cells_ofT HX7.out; obtain ⟨y70, y71, y72⟩ := cells_ofT HY7.out) | (go_at_call 16; (with_reducible refine (CMP.out _ GQ7.out).mono ?_); rintro r p8 ⟨⟨v7, rfl⟩, g7⟩; have ga7 := g7; have GQ8 := hide (GQ7.out.trans ga7); have HX8 := hide (ga7.keepH HX7.out); have HY8 := hide (ga7.keepH HY7.out); clear x70 x71 x72 y70 y71 y72; obtain ⟨x80, x81, x82⟩ := cells_ofT HX8.out; obtain ⟨y80, y81, y82⟩ := cells_ofT HY8.out) | (go_at_call 17; (with_reducible refine (OFT.out _ GQ8.out).mono ?_); rintro r p9 ⟨⟨s6, a6, m6, k6, e6, er6, rfl, hf6, hn6⟩, g8⟩; have ga8 := g8.alloc (.cells #[.bool s6, .slice a6 m6 k6, .int .i64 e6] 24); have bb6 := hide (new_block p9 (.cells #[.bool s6, .slice a6 m6 k6, .int .i64 e6] 24)); have GQ9 := hide (GQ8.out.trans ga8); have HX9 := hide (ga8.keepH HX8.out); have HY9 := hide (ga8.keepH HY8.out); clear x80 x81 x82 y80 y81 y82; obtain ⟨x90, x91, x92⟩ := cells_ofT HX9.out; obtain ⟨y90, y91, y92⟩ := cells_ofT HY9.out))
            generalize hq : (p9.alloc (.cells #[.bool s6, .slice a6 m6 k6, .int .i64 e6] 24)) = q at *
            obtain ⟨w00, w01, w02⟩ := cells_ofT ((((((((ga1.trans ga2).trans ga3).trans ga4).trans ga5).trans ga6).trans ga7).trans ga8).keepH bb0.out)
            obtain ⟨w10, w11, w12⟩ := cells_ofT (((((((ga2.trans ga3).trans ga4).trans ga5).trans ga6).trans ga7).trans ga8).keepH bb1.out)
            obtain ⟨w20, w21, w22⟩ := cells_ofT ((((((ga3.trans ga4).trans ga5).trans ga6).trans ga7).trans ga8).keepH bb2.out)
            obtain ⟨w30, w31, w32⟩ := cells_ofT (((((ga4.trans ga5).trans ga6).trans ga7).trans ga8).keepH bb3.out)
            obtain ⟨w40, w41, w42⟩ := cells_ofT ((((ga5.trans ga6).trans ga7).trans ga8).keepH bb4.out)
            obtain ⟨w50, w51, w52⟩ := cells_ofT (((ga6.trans ga7).trans ga8).keepH bb5.out)
            obtain ⟨w60, w61, w62⟩ := cells_ofT bb6.out
            have gq : Gr wr q := ((((((((ga0.trans ga1).trans ga2).trans ga3).trans ga4).trans ga5).trans ga6).trans ga7).trans ga8)
            have HLq := gq.owns HLL.out
            have lvlt : ∀ c, u9.ownBlock = some c → c < wr.heap.size := fun c hc => (HLL.out.lt c hc).2
            have z1 : wr.heap.size ≤ p1.heap.size := g0.size
            have z2 : p1.heap.size ≤ p2.heap.size := Nat.le_trans ((Gr.refl p1).alloc (.cells #[.bool SA, .slice a0 m0 k0, .int .i64 EA] 24)).size g1.size
            have z3 : p2.heap.size ≤ p3.heap.size := Nat.le_trans ((Gr.refl p2).alloc (.cells #[.bool s1, .slice a1 m1 k1, .int .i64 e1] 24)).size g2.size
            have z4 : p3.heap.size ≤ p4.heap.size := Nat.le_trans ((Gr.refl p3).alloc (.cells #[.bool s2, .slice a2 m2 k2, .int .i64 e2] 24)).size g3.size
            have z5 : p4.heap.size ≤ p5.heap.size := Nat.le_trans ((Gr.refl p4).alloc (.cells #[.bool SN, .slice a3 m3 k3, .int .i64 EN] 24)).size g4.size
            have z6 : p5.heap.size ≤ p6.heap.size := Nat.le_trans ((Gr.refl p5).alloc (.cells #[.bool s4, .slice a4 m4 k4, .int .i64 e4] 24)).size g5.size
            have z8 : p6.heap.size ≤ p8.heap.size := Nat.le_trans ((Gr.refl p6).alloc (.cells #[.bool s5, .slice a5 m5 k5, .int .i64 e5] 24)).size (Nat.le_trans g6.size g7.size)
            have z9 : p8.heap.size ≤ p9.heap.size := g8.size
            have z10 : p9.heap.size ≤ q.heap.size := by rw [← hq]; exact ((Gr.refl p9).alloc (.cells #[.bool s6, .slice a6 m6 k6, .int .i64 e6] 24)).size
            have nb : ∀ m, wr.heap.size ≤ m → some m ≠ u9.ownBlock := fun m hm e => by have := lvlt m e.symm; omega
            obtain ⟨zs0, F0, D0⟩ := Fr1.ofD hf0 hl0 hn0 (((Gr.refl p1).alloc (.cells #[.bool SA, .slice a0 m0 k0, .int .i64 EA] 24)).trans (((((((ga1.trans ga2).trans ga3).trans ga4).trans ga5).trans ga6).trans ga7).trans ga8))
            obtain ⟨zs1, F1⟩ := Fr1.of (hf1.low (show p1.heap.size ≤ _ from ((Gr.refl p1).alloc (.cells #[.bool SA, .slice a0 m0 k0, .int .i64 EA] 24)).size)) hn1 (((Gr.refl p2).alloc (.cells #[.bool s1, .slice a1 m1 k1, .int .i64 e1] 24)).trans ((((((ga2.trans ga3).trans ga4).trans ga5).trans ga6).trans ga7).trans ga8))
            obtain ⟨zs2, F2⟩ := Fr1.of (hf2.low (show p2.heap.size ≤ _ from ((Gr.refl p2).alloc (.cells #[.bool s1, .slice a1 m1 k1, .int .i64 e1] 24)).size)) hn2 (((Gr.refl p3).alloc (.cells #[.bool s2, .slice a2 m2 k2, .int .i64 e2] 24)).trans (((((ga3.trans ga4).trans ga5).trans ga6).trans ga7).trans ga8))
            obtain ⟨zs3, F3, D3⟩ := Fr1.ofD (hf3.low (show p3.heap.size ≤ _ from ((Gr.refl p3).alloc (.cells #[.bool s2, .slice a2 m2 k2, .int .i64 e2] 24)).size)) hl3 hn3 (((Gr.refl p4).alloc (.cells #[.bool SN, .slice a3 m3 k3, .int .i64 EN] 24)).trans ((((ga4.trans ga5).trans ga6).trans ga7).trans ga8))
            obtain ⟨zs4, F4⟩ := Fr1.of (hf4.low (show p4.heap.size ≤ _ from ((Gr.refl p4).alloc (.cells #[.bool SN, .slice a3 m3 k3, .int .i64 EN] 24)).size)) hn4 (((Gr.refl p5).alloc (.cells #[.bool s4, .slice a4 m4 k4, .int .i64 e4] 24)).trans (((ga5.trans ga6).trans ga7).trans ga8))
            obtain ⟨zs5, F5⟩ := Fr1.of (hf5.low (show p5.heap.size ≤ _ from ((Gr.refl p5).alloc (.cells #[.bool s4, .slice a4 m4 k4, .int .i64 e4] 24)).size)) hn5 (((Gr.refl p6).alloc (.cells #[.bool s5, .slice a5 m5 k5, .int .i64 e5] 24)).trans ((ga6.trans ga7).trans ga8))
            obtain ⟨zs6, F6⟩ := Fr1.of (hf6.low z8) hn6 (show Gr p9 q by rw [← hq]; exact (Gr.refl p9).alloc (.cells #[.bool s6, .slice a6 m6 k6, .int .i64 e6] 24))
            have hWB : W.heap.size ≤ q.heap.size := GQ9.out.size
            have Gq := hide GQ9.out
            refine Code.wp_mono ?_ (reg18 _ _ _ _ _ _ _ _ _ _ _ _ _ _ _ _ _ _ _ _ _ _ _ _ _ _ _ _ _ _ _ _ _ _ _ _ _ _ _ _ _ _ _ _ _ _ _ _ _ _ _ _ _ _ _ _ _ _ _ _ _ _ _ _ _ _ _ _ _ _ _ _ _ _ _ _ _ _ _ _ _ _ _ _ _ _ _ _ _ _ _ _ _ _ _ _ _ _ _ _ _ _ _ _ _ _ _ _ _ _ _ _ _ _ _ _ _ _ _ _ _ _ _ _ _ _ _ _ _ _ _ _ _ _ _ _ _ _ _ _ _ _ _ _ _ _ _ _ _ _ _ _ p1.heap.size p2.heap.size p3.heap.size p4.heap.size p5.heap.size p6.heap.size p9.heap.size SA s1 s2 SN s4 s5 s6 a0 a1 a2 a3 a4 a5 a6 m0 k0 m1 k1 m2 k2 m3 k3 m4 k4 m5 k5 m6 k6 EA e1 e2 EN e4 e5 e6 u9 W.heap.size kk _ q (fun w1 g => INT.out w1 (Gq.out.trans g)) HLq hWB (by omega) ⟨w00, w01, w02, w10, w11, w12, w20, w21, w22, w30, w31, w32, w40, w41, w42, w50, w51, w52, w60, w61, w62⟩ (nb _ (by omega)) (nb _ (by omega)) (nb _ (by omega)) (nb _ (by omega)) (nb _ (by omega)) (nb _ (by omega)) (nb _ (by omega)))
            intro ex2 ac2 wz hR2
            cases ex2
            case normal =>
              obtain ⟨v92, v93, v94, v95, v96, v97, v98, v99, v100, v101, v102, v103, lv', sI, aI, mI, kI, eI, b, wi, rfl, hrow, hlv, hfI, hnI, gyz, gi, hbw, hci, hgr⟩ := hR2
              have NX := hide (rel_next hlt HDD.out HLL.out GQ0.out HAA.out gq F0 ⟨rfl, rfl, D0⟩ F1 F2 F3 ⟨rfl, rfl, D3⟩ F4 F5 F6 z1 z2 z3 z4 z5 z6 (by omega) z10 hrow hlv hfI hnI gyz gi hci hgr)
              clear hrow hlv hfI hnI gyz gi hbw hci hgr
              go_wp2
              go_roundw
              case rel => exact ⟨kk + 1, by omega, by go_num, NX⟩
              case measure => simp only [intOf]; omega
            all_goals exact hR2.elim
          · have hkk : kk = 2 := by omega
            have hi2 : ¬ (kk : Int) < 2 := by omega
            rw [hkk] at hR
            obtain ⟨V, Us, nn, cc, zss, yss, hD, hL, hW, hA, hN⟩ := hR.out
            have TVA := hide (hA (by omega))
            have TVN := hide (hN (by omega))
            have HD := hide hD
            have HL := hide hL
            have HW := hide hW
            have KX : Hid (∀ w1, Gr wr w1 → Calls Tryz.prog 19 #[.agg #[.bool s, .slice (some ⟨gx, 0, none⟩) n1 (n1 + 12), .int .i64 e], .agg #[.bool s, .slice ad1 n1 c1, .int .i64 e]] w1 fun r w' => r = .returned (.bool true) ∧ Gr w1 w') := fun w1 g => keptD19 s w3.heap.size gx n1 c1 ad1 e xs w1 (by omega) (HR1.out.gr ((G1W.out.trans HW.out).trans g)) HX1.out ((HW.out.trans g).owns OX.out)
            have KY : Hid (∀ w1, Gr wr w1 → Calls Tryz.prog 19 #[.agg #[.bool t, .slice (some ⟨gy, 0, none⟩) n2 (n2 + 12), .int .i64 f], .agg #[.bool t, .slice ad2 n2 c2, .int .i64 f]] w1 fun r w' => r = .returned (.bool true) ∧ Gr w1 w') := fun w1 g => keptD19 t w3.heap.size gy n2 c2 ad2 f ys w1 (by omega) (HR2.out.gr ((G1W.out.trans HW.out).trans g)) HX2.out ((HW.out.trans g).owns OY.out)
            have w3l : w.heap.size + 2 ≤ w3.heap.size := by have := lt_of_heap LB3.out; omega
            obtain ⟨b0, hU0⟩ := hD.uval 0 (by omega)
            obtain ⟨b1, hU1⟩ := hD.uval 1 (by omega)
            obtain ⟨aV0, hV0⟩ := hD.vval 0 (by omega)
            obtain ⟨aV1, hV1⟩ := hD.vval 11 (by omega)
            obtain ⟨bq, mc, hlv, hmc⟩ : ∃ bq mc, u9 = .slice (some ⟨bq, 0, none⟩) 2 mc ∧ (2 ≤ mc ∧ mc ≤ 9223372036854775807) := by
              rcases hL.2 with ⟨_, h0⟩ | ⟨g, cap, cur, e1, _, _, h1, h2, _⟩
              · omega
              · exact ⟨g, cap, e1, h1, h2⟩
            subst hlv
            clear hR hA hN hD hL hW
            -- the boxes of what was lent, and of what was handed in
            have hx0 := HW.out.keepH HBX.out
            have hy0 := HW.out.keepH HBZ.out
            have ha0 := HW.out.keepH LA.out
            have hb0 := HW.out.keepH LB.out
            obtain ⟨x00, x01, x02⟩ := cells_ofT hx0
            obtain ⟨y00, y01, y02⟩ := cells_ofT hy0
            obtain ⟨d00, d01, d02⟩ := cells_ofT ha0
            obtain ⟨f00, f01, f02⟩ := cells_ofT hb0
            have tok : True := trivial
            go_wp2_with (first | (go_at_call 19; have _t := tok; (with_reducible refine (KX.out _ (Gr.refl _)).mono ?_); rintro r v1 ⟨rfl, gv1⟩; clear tok x00 x01 x02 y00 y01 y02 d00 d01 d02 f00 f01 f02; have hx1 := gv1.keepH hx0; have hy1 := gv1.keepH hy0; have ha1 := gv1.keepH ha0; have hb1 := gv1.keepH hb0; obtain ⟨x10, x11, x12⟩ := cells_ofT hx1; obtain ⟨y10, y11, y12⟩ := cells_ofT hy1; obtain ⟨d10, d11, d12⟩ := cells_ofT ha1; obtain ⟨f10, f11, f12⟩ := cells_ofT hb1; clear hx0 hy0 ha0 hb0) | (go_at_call 19; (with_reducible refine (KY.out _ gv1).mono ?_); rintro r v2 ⟨rfl, gv2⟩; clear x10 x11 x12 y10 y11 y12 d10 d11 d12 f10 f11 f12; have hx2 := gv2.keepH hx1; have hy2 := gv2.keepH hy1; have ha2 := gv2.keepH ha1; have hb2 := gv2.keepH hb1; obtain ⟨x20, x21, x22⟩ := cells_ofT hx2; obtain ⟨y20, y21, y22⟩ := cells_ofT hy2; clear hx1 hy1 ha1 hb1; have gW2 := hide (HW.out.trans (gv1.trans gv2)); have oX2 := gW2.out.owns OX.out; have oY2 := gW2.out.owns OY.out; have nxz := owns_nebag oX2 hy2 (by decide)) | (go_at_call 20; (with_reducible refine (overD20 s w3.heap.size gx n1 e _ v2 (by omega) oX2).mono ?_); rintro r o1 ⟨rfl, gx1⟩; clear x20 x21 x22 y20 y21 y22; have hy3 := (gx1.block bz (lt_of_heap hy2) (fun e => nxz e.symm)).trans hy2; obtain ⟨y30, y31, y32⟩ := cells_ofT hy3; have oY3 := gx1.owns oY2 (fun c hc e => by injection hc with hc; injection e with e; simp only at hc; omega)) | (go_at_call 20; (with_reducible refine (overD20 t w3.heap.size gy n2 f _ o1 (by omega) oY3).mono ?_); rintro r o2 ⟨rfl, gy1⟩; clear y30 y31 y32; have ha3 := (gx1.block w.heap.size (lt_of_heap ha2) (fun e => by injection e with e; omega)).trans ha2; have hb3 := (gx1.block (w.heap.size + 1) (lt_of_heap hb2) (fun e => by injection e with e; omega)).trans hb2; have ha4 := (gy1.block w.heap.size (lt_of_heap ha3) (fun e => by injection e with e; omega)).trans ha3; have hb4 := (gy1.block (w.heap.size + 1) (lt_of_heap hb3) (fun e => by injection e with e; omega)).trans hb3; obtain ⟨d40, d41, d42⟩ := cells_ofT ha4; obtain ⟨f40, f41, f42⟩ := cells_ofT hb4; have GO := hide (Gy.of_grx (Gy.of_grx (G1W.out.trans gW2.out) gx1 (fun k e => by injection e with e; omega)) gy1 (fun k e => by injection e with e; omega))) | (go_at_call 21; (with_reducible refine (RADD.out _ GO.out).mono ?_); rintro r q1 ⟨aS, mS, kS, rfl, hlS, gS⟩; clear d40 d41 d42 f40 f41 f42; have gS1 := gS.alloc (.cells #[.bool SA, .slice aS mS kS, .int .i64 EA] 24); have bS := hide (new_block q1 (.cells #[.bool SA, .slice aS mS kS, .int .i64 EA] 24)); have ha5 := gS1.keepH ha4; obtain ⟨d50, d51, d52⟩ := cells_ofT ha5; have GO1 := hide (GO.out.trans gS1)) | (go_at_call 22; (with_reducible refine (RNEG.out _ GO1.out).mono ?_); rintro r q2 ⟨aN, mN, kN, rfl, hlN, gN⟩; clear d50 d51 d52; have gN1 := gN.alloc (.cells #[.bool SN, .slice aN mN kN, .int .i64 EN] 24); have bN := hide (new_block q2 (.cells #[.bool SN, .slice aN mN kN, .int .i64 EN] 24)); have GO2 := hide (GO1.out.trans gN1)))
            have gg := gS1.trans gN1
            have lowV : ∀ j, j < 8 * 2 → ∀ c, (V j).ownBlock = some c → W.heap.size ≤ c := fun j hj c hc => ((HD.out.vrow j hj).lt c hc).1
            have lowU : ∀ j, j < 2 → ∀ c, (Us j).ownBlock = some c → W.heap.size ≤ c := fun j hj c hc => ((HD.out.urow j hj).lt c hc).1
            have hDa := (((HD.out.gr (gv1.trans gv2)).gy gx1 (fun k hk c hc e => by injection e with e; have := lowU k hk c hc; omega) (fun k hk c hc e => by injection e with e; have := lowV k hk c hc; omega)).gy gy1 (fun k hk c hc e => by injection e with e; have := lowU k hk c hc; omega) (fun k hk c hc e => by injection e with e; have := lowV k hk c hc; omega)).gr gg
            have lowL : ∀ c, (Value.slice (some ⟨bq, 0, none⟩) 2 mc).ownBlock = some c → W.heap.size ≤ c := fun c hc => (HL.out.lt c hc).1
            have hLa := gg.owns (gy1.owns (gx1.owns ((gv1.trans gv2).owns HL.out) (fun c hc e => by injection e with e; have := lowL c hc; omega)) (fun c hc e => by injection e with e; have := lowL c hc; omega))
            have hr0 := hDa.urow 0 (by omega)
            have hr1 := hDa.urow 1 (by omega)
            rw [hU0] at hr0
            rw [hU1] at hr1
            have ho0 := hDa.vrow 0 (by omega)
            have ho1 := hDa.vrow 11 (by omega)
            have tc1 := TVA.out.c1
            have tn1 := TVN.out.c1
            rw [hV0] at ho0 tc1
            rw [hV1] at ho1 tn1
            have k0 := (hLa.cellAt 0 (by omega)).trans (show ((List.range 2).map Us)[0]? = some (Us 0) from rfl)
            have k1 := (hLa.cellAt 1 (by omega)).trans (show ((List.range 2).map Us)[1]? = some (Us 1) from rfl)
            have e00 := (hr0.cellAt 0 (by omega)).trans TVA.out.c0
            have e01 := (hr0.cellAt 1 (by omega)).trans tc1
            have e02 := (hr0.cellAt 2 (by omega)).trans TVA.out.c2
            have e10 := (hr1.cellAt 9 (by omega)).trans TVN.out.c0
            have e11 := (hr1.cellAt 10 (by omega)).trans tn1
            have e12 := (hr1.cellAt 11 (by omega)).trans TVN.out.c2
            have kk0 := k0
            have kk1 := k1
            rw [hU0] at kk0
            rw [hU1] at kk1
            obtain ⟨sS0, sS1, sS2⟩ := cells_ofT (gN1.keepH bS.out)
            obtain ⟨sN0, sN1, sN2⟩ := cells_ofT bN.out
            have LS := hide (hlS.gr (((Gr.refl q1).alloc (.cells #[.bool SA, .slice aS mS kS, .int .i64 EA] 24)).trans gN1))
            have LN := hide (hlN.gr ((Gr.refl q2).alloc (.cells #[.bool SN, .slice aN mN kN, .int .i64 EN] 24)))
            have L0 := hide (lim_of_owns ho0 TVA.out.dg)
            have L1 := hide (lim_of_owns ho1 TVN.out.dg)
            have HDa := hide hDa
            have HK : Hid (∀ k, k < 2 → (q2.alloc (.cells #[.bool SN, .slice aN mN kN, .int .i64 EN] 24)).cell? ⟨bq, k, none⟩ = some (Us k)) := fun k hk => by
              rcases (show k = 0 ∨ k = 1 by omega) with rfl | rfl
              · exact k0
              · exact k1
            have hWq : W.heap.size ≤ (q2.alloc (.cells #[.bool SN, .slice aN mN kN, .int .i64 EN] 24)).heap.size := by
              have := gW2.out.size; have := gx1.size; have := gy1.size; have := gg.size; omega
            clear hDa hLa hr0 hr1 ho0 ho1 tc1 tn1 k0 k1 lowV lowU lowL
            generalize q2.alloc (.cells #[.bool SN, .slice aN mN kN, .int .i64 EN] 24) = q at *
            refine Code.wp_mono ?_ (reg25 _ _ _ _ _ _ _ _ _ _ _ _ _ _ _ _ _ _ _ _ _ _ _ _ _ _ _ _ _ _ _ _ _ _ _ _ _ _ _ _ _ _ _ _ _ _ _ _ _ _ _ _ _ _ _ _ _ _ _ _ _ _ _ _ _ _ _ _ _ _ _ _ _ _ _ _ _ _ _ _ _ _ _ _ _ _ _ _ _ _ _ _ _ _ _ _ _ _ _ _ _ _ _ _ _ _ _ _ _ _ _ _ _ _ _ _ _ _ _ _ _ _ _ _ _ _ _ _ _ _ _ _ _ _ _ _ _ _ _ _ _ _ _ _ _ _ _ _ _ _ _ _ _ _ _ bq b0 b1 q1.heap.size q2.heap.size mc SA SN aV0 aV1 aS aN (nn 0) (cc 0) (nn 11) (cc 11) mS kS mN kN EA EN GA GN q (fun _ w1 g => sameDyadS SA aV0 aS _ _ _ _ EA XA w1 (L0.out.gr g) (LS.out.gr g)) (fun _ w1 g => sameDyadS SN aV1 aN _ _ _ _ EN XN w1 (L1.out.gr g) (LN.out.gr g)) hmc.1 ⟨kk0, kk1, e00, e01, e02, e10, e11, e12, sS0, sS1, sS2, sN0, sN1, sN2⟩)
            intro ex3 ac3 wy hR3
            cases ex3
            case normal =>
              obtain ⟨v129, v130, v131, v132, v133, v134, v135, v136, v137, v138, v139, v140, v141, v142, v143, v144, v145, v146, v147, v148, v149, v150, v151, v152, v153, rfl, gy3⟩ := hR3
              have AP := hide (apartD24 2 8 bq mc W.heap.size V Us nn cc zss yss wy (by omega) (by omega) (by omega) (by omega) (by omega) hmc.1 hmc.2 (HDa.out.gr gy3) (Nat.le_trans hWq gy3.size) (fun k hk => gy3.keep (HK.out k hk)))
              have GY3 := hide (GO2.out.trans gy3)
              have ww := G1W.out.size
              clear kk0 kk1 e00 e01 e02 e10 e11 e12 sS0 sS1 sS2 sN0 sN1 sN2
              go_wp2_with (first | (go_at_call 24; (with_reducible refine AP.out.mono ?_); rintro r z1 ⟨rfl, hz1⟩; have GZ := hide (hz1 w GY3.out ww)) | (go_at_call 6; (with_reducible refine (AW.out _ GZ.out).mono ?_); rintro r z2 ⟨rfl, gz2⟩))
              go_ret
              exact ⟨rfl, GZ.out.trans gz2⟩
            all_goals exact hR3.elim
      all_goals exact hR.elim
    · rw [ha] at G1
      rw [hb] at G2
      have tok : True := trivial
      go_enter Tryz.func3, Tryz.ntmps3
      go_wp2_with (first | (go_at_call 5; have _t := tok; (with_reducible refine (G1.out _).mono ?_); rintro r w1 ⟨rfl, g1⟩; clear tok; have k := keep6 g1 TB.out; have k0 := k.1.1; have k1 := k.1.2.1; have k2 := k.1.2.2.1; have k3 := k.1.2.2.2.1; have k4 := k.1.2.2.2.2.1; have k5 := k.1.2.2.2.2.2) | (go_at_call 5; (with_reducible refine (G2.out _).mono ?_); rintro r w2 ⟨rfl, g2⟩) | (go_at_call 6; (with_reducible refine (AW.out _ (k.2.trans g2)).mono ?_); rintro r w3 ⟨rfl, g3⟩))
      go_ret
      exact ⟨rfl, (k.2.trans g2).trans g3⟩
  · rw [ha] at G1
    go_enter Tryz.func3, Tryz.ntmps3
    go_wp2_with (first | (go_at_call 5; (with_reducible refine (G1.out _).mono ?_); rintro r w1 ⟨rfl, g1⟩; have k := keep6 g1 TB.out) | (go_at_call 6; (with_reducible refine (AW.out _ k.2).mono ?_); rintro r w3 ⟨rfl, g3⟩))
    go_ret
    exact ⟨rfl, k.2.trans g3⟩
end Go.Proofs.YtbkkpbffdnhidaaGreatDoor
