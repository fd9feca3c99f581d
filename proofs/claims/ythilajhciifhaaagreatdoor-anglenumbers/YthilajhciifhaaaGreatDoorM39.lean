import Derived.Test.YthilajhciifhaaaGreatDoorM38
import Derived.Test.YthilajhciifhaaaGreatDoorM20
import Derived.Test.YthilajhciifhaaaGreatDoorM26
import Derived.Test.YthilajhciifhaaaGreatDoorM33
import Derived.Test.YthilajhciifhaaaGreatDoorM05
import Derived.Test.YthilajhciifhaaaGreatDoorM02
import Derived.Test.YthilajhciifhaaaGreatDoorM19
import Derived.ArgAppend
import Derived.OwnWalk
import Derived.Deep.RegionHeld3
namespace Go.Proofs.YthilajhciifhaaaGreatDoor.Fl
open Go.RowKit
open Ieee
set_option linter.unusedVariables false

theorem copyN_t (r : Nat) (h : r < 9223372036854775808) : copyN r 13830554455654793216 = W true r := by
  have h1 : bits BinOp.andNot IntKind.u64 (r : Int) 9223372036854775808 = (r : Int) := by
    have := abs_W false r h
    rw [show W false r = r from rfl] at this
    unfold absN at this
    have h2 : 0 ≤ bits BinOp.andNot IntKind.u64 (r : Int) 9223372036854775808 := by
      show 0 ≤ IntKind.u64.wrap _
      rw [IntKind.wrap_u64]; omega
    omega
  have h3 : bits BinOp.and IntKind.u64 13830554455654793216 9223372036854775808 = ((9223372036854775808 : Nat) : Int) := by kernel_rfl
  unfold copyN
  rw [h1, show ((13830554455654793216 : Nat) : Int) = 13830554455654793216 from rfl, h3, bits_or_u64_nat r 9223372036854775808 (by omega) (by omega)]
  have : r ||| 9223372036854775808 = 9223372036854775808 + r := by
    have := Nat.two_pow_add_eq_or_of_lt (i := 63) (b := r) (by simpa using h) 1
    rw [Nat.or_comm]
    simpa using this.symm
  rw [this]
  show _ = 9223372036854775808 + r
  simp
  omega
@[irreducible] def DD : Nat := 2 ^ (KK - 1074).toNat
end Go.Proofs.YthilajhciifhaaaGreatDoor.Fl
namespace Go.Proofs.YthilajhciifhaaaGreatDoor.Fl
open Go.RowKit
open Ieee
set_option linter.unusedVariables false

theorem float_num (s : Bool) (ad : Option Addr) (n cap x N t : Nat) (e last : Int) (w : World) (dx : DyAt w s ad (n + 1) cap e x) (x0 : 0 < x) (hlast : max ((bl x : Int) + e - 53) (-1074) = last) (ht : (t : Int) = last + 1074) (hN : N ≤ 9007199254740992) (hN2 : t = 0 ∨ 4503599627370496 ≤ N) (hl : last ≤ 4000000)
    (H48 : Hid (∀ w1, Gr w w1 → Calls Tryz.prog 51 #[.slice ad (n + 1) cap, .int .i64 (last - e)] w1 fun r w' => r = .returned (.int .u64 (N : Int)) ∧ Gr w1 w')) :
    (t * 4503599627370496 + N < 9218868437227405312 → Calls Tryz.prog 15 #[.agg #[.bool s, .slice ad (n + 1) cap, .int .i64 e]] w fun r w' => r = .returned (.tuple #[.float .f64 (W s (t * 4503599627370496 + N)), .int .i64 0]) ∧ Gr w w') ∧
    (9218868437227405312 ≤ t * 4503599627370496 + N → Calls Tryz.prog 15 #[.agg #[.bool s, .slice ad (n + 1) cap, .int .i64 e]] w fun r w' => r = .returned (.tuple #[.float .f64 0, .int .i64 6]) ∧ Gr w w') := by
  have A46 : Hid (∀ w, Calls Tryz.prog 50 #[.float .f64 (floatOfInt FloatKind.f64 (N : Int)), .int .i64 last] w fun e w' => e = .returned (.float .f64 (min (t * 4503599627370496 + N) 9218868437227405312)) ∧ w' = w) := by
    obtain ⟨hMM, _, _⟩ := rung_near t N hN hN2
    intro w
    clear H48 dx hlast
    rw [floatOfInt_W (N : Int) (by omega), show decide ((N : Int) < 0) = false from decide_eq_false (by omega), show ((N : Int)).natAbs = N by omega]
    by_cases h0 : N = 0
    · subst h0
      obtain rfl : t = 0 := by rcases hN2 with h | h; exact h; exact absurd h (by decide)
      have hz : ofN 0 = 0 := M_inj ((ofN_spec 0 (by omega)).1.trans (by rw [Nat.zero_mul, M_zero]))
      rw [hz]
      have := ldexp_same (W false 0) last w (by rw [zeroB_W false 0 (by omega)]; rfl)
      exact this
    · exact ldexpN (ofN N) N (t * 4503599627370496 + N) t last (by omega) (ofN_spec N (by omega)).2.1 (ofN_spec N (by omega)).1 ht (by omega) hMM w
  have hI9 : pinfB (absN 9218868437227405312) = true := by
    have h1 := abs_W false 9218868437227405312 (by omega)
    rw [show W false 9218868437227405312 = 9218868437227405312 from rfl] at h1
    have h2 := pinfB_W false 9218868437227405312 (by omega)
    rw [show W false 9218868437227405312 = 9218868437227405312 from rfl] at h2
    exact (congrArg pinfB h1).trans h2
  constructor
  · intro hf
    rw [Nat.min_eq_left (by omega)] at A46
    obtain ⟨y, hy⟩ : ∃ y, y = t * 4503599627370496 + N := ⟨_, rfl⟩
    rw [← hy] at A46 hf ⊢
    have hI : pinfB (absN y) = false := by
      have h1 := abs_W false y (by omega)
      rw [show W false y = y from rfl] at h1
      rw [h1]
      have h2 := pinfB_W false y (by omega)
      rw [show W false y = y from rfl] at h2
      rw [h2, decide_eq_false (by omega)]; rfl
    cases s
    · exact float22p ad n cap x N y e last w dx x0 hlast H48 A46 hI
    · have := float22n ad n cap x N y e last w dx x0 hlast H48 A46 hI
      rw [copyN_t _ (by omega)] at this
      exact this
  · intro hf
    rw [Nat.min_eq_right (by omega)] at A46
    exact float22o s ad n cap x N 9218868437227405312 e last w dx x0 hlast H48 A46 hI9
theorem float_z (s : Bool) (ad : Option Addr) (cap : Nat) (e : Int) (w : World) (R : Hid (∀ w1, Gr w w1 → Calls Tryz.prog 44 #[.agg #[.bool s, .slice ad 0 cap, .int .i64 e]] w1 fun r w' => r = .returned (.bool true) ∧ Gr w1 w')) :
    Calls Tryz.prog 15 #[.agg #[.bool s, .slice ad 0 cap, .int .i64 e]] w fun r w' => r = .returned (.tuple #[.float .f64 0, .int .i64 0]) ∧ Gr w w' := by
  have G0 : Gr w (w.alloc (.cells #[.bool s, .slice ad 0 cap, .int .i64 e] 24)) := (Gr.refl w).alloc _
  have P0 := hide (first_block w (.cells #[.bool s, .slice ad 0 cap, .int .i64 e] 24))
  go_enter Tryz.func15, Tryz.ntmps15
  go_wp2_with (go_at_call 44; (with_reducible refine (R.out _ G0).mono ?_); rintro r w1 ⟨rfl, g1⟩; have P1 := g1.keepH P0.out; obtain ⟨x0, x1, x2⟩ := cells_ofT P1)
  go_ret2
  exact ⟨rfl, G0.trans g1⟩
end Go.Proofs.YthilajhciifhaaaGreatDoor.Fl
namespace Go.Proofs.YthilajhciifhaaaGreatDoor
open Go.RowKit
open Ieee
set_option linter.unusedVariables false

/-! FLOATS OF WORTHS, Near AT ITS EXAMPLES -/
theorem dyv_is {w : World} {s : Bool} {ad : Option Addr} {n cap : Nat} {e V : Int} (d : DyV w s ad n cap e V) {t : Bool} {y : Nat} {f : Int} (hy : (y = 0 ∧ t = false ∧ f = 0) ∨ (∃ q, y = 2 * q + 1 ∧ -1048576 ≤ f ∧ f ≤ 1048576)) (hV : sv KK t y f = V) : s = t ∧ e = f ∧ DyAt w s ad n cap e y := by
  obtain ⟨x, dx, hx⟩ := d
  obtain ⟨h1, h2, h3⟩ := sv_one dx.right hy (hx.trans hV.symm)
  exact ⟨h1, h3, h2 ▸ dx⟩
theorem lim_succ {w : World} {ad : Option Addr} {n cap x : Nat} (h : Lim w ad n cap 18446744073709551616 x) (h0 : 0 < x) : ∃ m, n = m + 1 := by
  obtain ⟨ys, ry, dy⟩ := h
  refine ⟨n - 1, ?_⟩
  have : ¬ n = 0 := fun hz => by
    have h1 : ys.length = 0 := by rw [ry.len, hz]
    have := (dy.zero_iff (by omega)).1 h1
    omega
  omega
theorem float_zero (s : Bool) (ad : Option Addr) (n cap : Nat) (e : Int) (w : World) (d : DyV w s ad n cap e 0) : Calls Tryz.prog 15 #[.agg #[.bool s, .slice ad n cap, .int .i64 e]] w fun r w' => r = .returned (.tuple #[.float .f64 0, .int .i64 0]) ∧ Gr w w' := by
  obtain ⟨rfl, rfl, dx⟩ := dyv_is d (t := false) (y := 0) (f := 0) (Or.inl ⟨rfl, rfl, rfl⟩) (sv_zero _ _ _)
  have hn : n = 0 := by
    obtain ⟨ys, ry, dy⟩ := dx.lim
    have := (dy.zero_iff (by omega)).2 rfl
    rw [ry.len] at this
    exact this
  subst hn
  exact Fl.float_z false ad cap 0 w dx.r26
theorem bl_one : bl 1 = 1 := bl_unique (by omega) (by omega)
theorem un_sv (t : Bool) (C P : Nat) (hP : P ≤ 1000000) : sv KK t C (-(P : Int)) = (if t then -(C : Int) else (C : Int)) * Un P := by
  have hk := KK_eq
  have hn : KK = (KN : Int) := rfl
  unfold sv Un
  rw [show (-(P : Int) + KK).toNat = KN - P by omega]
  cases t
  · simp
  · simp [Int.neg_mul]
theorem float_one (t : Bool) (s : Bool) (ad : Option Addr) (n cap : Nat) (e : Int) (w : World) (d : DyV w s ad n cap e ((if t then -1 else 1) * Un 0)) : Calls Tryz.prog 15 #[.agg #[.bool s, .slice ad n cap, .int .i64 e]] w fun r w' => r = .returned (.tuple #[.float .f64 (Fl.W t 4607182418800017408), .int .i64 0]) ∧ Gr w w' := by
  obtain ⟨rfl, rfl, dx⟩ := dyv_is d (t := t) (y := 1) (f := 0) (Or.inr ⟨0, rfl, by omega, by omega⟩) (un_sv t 1 0 (by omega))
  obtain ⟨m, rfl⟩ := lim_succ dx.lim (by omega)
  have := (Fl.float_num s ad m cap 1 4503599627370496 1022 0 (-52) w dx (by omega) (by rw [bl_one]; decide) (by omega) (by omega) (Or.inr (Nat.le_refl _)) (by omega) (fun w1 g => nearest48z ad (m + 1) cap 1 52 _ w1 (dx.lim.gr g) (by have := dx.le; omega) (by omega) (by omega) (by omega) (by omega))).1 (by omega)
  exact this
theorem two96 : (2 : Nat) ^ 96 = 79228162514264337593543950336 := by decide
theorem bl_r (d : Nat) (h : d ≤ 16384) : bl (56022770974786139918731930035 + d) = 96 := bl_unique (by rw [two96]; omega) (by rw [two96]; omega)
theorem float_r (C : Nat) (hC : C = 56022770974786139918731930035 ∨ C = 56022770974786139918731946419) (s : Bool) (ad : Option Addr) (n cap : Nat) (e : Int) (w : World) (d : DyV w s ad n cap e ((C : Int) * Un 96)) : Calls Tryz.prog 15 #[.agg #[.bool s, .slice ad n cap, .int .i64 e]] w fun r w' => r = .returned (.tuple #[.float .f64 4604544271217802189, .int .i64 0]) ∧ Gr w w' := by
  obtain ⟨rfl, rfl, dx⟩ := dyv_is d (t := false) (y := C) (f := -((96 : Nat) : Int)) (Or.inr ⟨C / 2, by omega, by omega, by omega⟩) (un_sv false C 96 (by omega))
  obtain ⟨m, rfl⟩ := lim_succ dx.lim (by omega)
  have hb : bl C = 96 := by
    rcases hC with rfl | rfl
    · exact bl_r 0 (by omega)
    · exact bl_r 16384 (by omega)
  have hq : C / 2 ^ 43 + (upB C 43).toNat = 6369051672525773 := by rcases hC with rfl | rfl <;> decide +kernel
  have hd : C / 2 ^ 43 + 1 < 18446744073709551616 := by rcases hC with rfl | rfl <;> decide +kernel
  have := (Fl.float_num false ad m cap C 6369051672525773 1021 (-((96 : Nat) : Int)) (-53) w dx (by omega) (by rw [hb]; decide) (by omega) (by omega) (Or.inr (by omega)) (by omega) (fun w1 g => by
    have h48 := nearest48p ad (m + 1) cap C 43 w1 (dx.lim.gr g) (by have := dx.le; omega) (by omega) (by omega) hd
    rw [hq] at h48
    exact h48)).1 (by omega)
  exact this
theorem near3 (w : World) (hT : TabAt 1 Lib.deBruijn64tab w) : Calls Tryz.prog 30 #[.int .i64 3, .int .i64 1] w fun r w' => r = .returned (.tuple #[.complex .f64 4604544271217802189 4604544271217802189, .int .i64 0]) ∧ Gr w w' := by
  have e1 : ((56022770974786139918731938227 : Int) - 8192) * Un 96 = ((56022770974786139918731930035 : Nat) : Int) * Un 96 := rfl
  have e2 : ((56022770974786139918731938227 : Int) + 8192) * Un 96 = ((56022770974786139918731946419 : Nat) : Int) * Un 96 := rfl
  refine angNear 3 1 2048 _ _ _ _ 4604544271217802189 4604544271217802189 w (by omega) (by decide) (by decide +kernel) (by decide +kernel) (fun B w1 g rk => boxH B 96 2048 56022770974786139918731938227 56022770974786139918731938227 0 w1 rk (tab_gr hT g) (cosZ 96 (2 * 2048) (by decide) (by decide)) (by omega) (by omega) (by omega) (by omega) (by decide +kernel) (by decide +kernel) (by decide +kernel) (by decide +kernel) 56022770974786139918731938227 56022770974786139918731938227 (by decide) (by decide)) (fun w1 s ad n cap e g d => ?_) (fun w1 s ad n cap e g d => ?_) (fun w1 s ad n cap e g d => ?_) (fun w1 s ad n cap e g d => ?_)
  · rw [e1] at d; exact float_r _ (Or.inl rfl) s ad n cap e w1 d
  · rw [e2] at d; exact float_r _ (Or.inr rfl) s ad n cap e w1 d
  · rw [e1] at d; exact float_r _ (Or.inl rfl) s ad n cap e w1 d
  · rw [e2] at d; exact float_r _ (Or.inr rfl) s ad n cap e w1 d
theorem zU {x : Int} (h : x = 0) : x * Un 0 = 0 := by rw [h, Int.zero_mul]
theorem nearQ (o : Nat) (st p q : Int) (x y : Nat) (w : World) (hT : TabAt 1 Lib.deBruijn64tab w) (ho : o ≤ 14) (hp : (st * ((2 ^ (14 - o) : Nat) : Int)) % 16384 = p) (h0 : 0 ≤ p) (h1 : p < 16384) (hm : p % 4096 = 0) (hd : p / 4096 = q)
    (hx : (FloatKind.f64.format.order x x == some Ordering.eq) = true) (hy : (FloatKind.f64.format.order y y == some Ordering.eq) = true)
    (FX : ∀ w1 s ad n cap e, DyV w1 s ad n cap e (cq q * Un 0) → Calls Tryz.prog 15 #[.agg #[.bool s, .slice ad n cap, .int .i64 e]] w1 fun r w' => r = .returned (.tuple #[.float .f64 x, .int .i64 0]) ∧ Gr w1 w')
    (FY : ∀ w1 s ad n cap e, DyV w1 s ad n cap e (cq (q - 1) * Un 0) → Calls Tryz.prog 15 #[.agg #[.bool s, .slice ad n cap, .int .i64 e]] w1 fun r w' => r = .returned (.tuple #[.float .f64 y, .int .i64 0]) ∧ Gr w1 w') :
    Calls Tryz.prog 30 #[.int .i64 (o : Int), .int .i64 st] w fun r w' => r = .returned (.tuple #[.complex .f64 x y, .int .i64 0]) ∧ Gr w w' :=
  angNear o st p _ _ _ _ x y w ho hp hx hy (fun B w1 g rk => boxQ B p q 96 w1 h0 h1 hm hd (tab_gr hT g)) (fun w1 s ad n cap e g d => FX w1 s ad n cap e d) (fun w1 s ad n cap e g d => FX w1 s ad n cap e d) (fun w1 s ad n cap e g d => FY w1 s ad n cap e d) (fun w1 s ad n cap e g d => FY w1 s ad n cap e d)
theorem near14 (w : World) (hT : TabAt 1 Lib.deBruijn64tab w) : Calls Tryz.prog 30 #[.int .i64 14, .int .i64 (-9223372036854775808)] w fun r w' => r = .returned (.tuple #[.complex .f64 4607182418800017408 0, .int .i64 0]) ∧ Gr w w' :=
  nearQ 14 (-9223372036854775808) 0 0 4607182418800017408 0 w hT (by omega) (by decide) (by omega) (by omega) (by omega) (by omega) (by decide +kernel) (by decide +kernel) (fun w1 s ad n cap e d => float_one false s ad n cap e w1 d) (fun w1 s ad n cap e d => float_zero s ad n cap e w1 (by rw [zU (by decide)] at d; exact d))
theorem near21 (w : World) (hT : TabAt 1 Lib.deBruijn64tab w) : Calls Tryz.prog 30 #[.int .i64 2, .int .i64 1] w fun r w' => r = .returned (.tuple #[.complex .f64 0 4607182418800017408, .int .i64 0]) ∧ Gr w w' :=
  nearQ 2 1 4096 1 0 4607182418800017408 w hT (by omega) (by decide) (by omega) (by omega) (by omega) (by omega) (by decide +kernel) (by decide +kernel) (fun w1 s ad n cap e d => float_zero s ad n cap e w1 (by rw [zU (by decide)] at d; exact d)) (fun w1 s ad n cap e d => float_one false s ad n cap e w1 d)
theorem near22 (w : World) (hT : TabAt 1 Lib.deBruijn64tab w) : Calls Tryz.prog 30 #[.int .i64 2, .int .i64 2] w fun r w' => r = .returned (.tuple #[.complex .f64 13830554455654793216 0, .int .i64 0]) ∧ Gr w w' :=
  nearQ 2 2 8192 2 13830554455654793216 0 w hT (by omega) (by decide) (by omega) (by omega) (by omega) (by omega) (by decide +kernel) (by decide +kernel) (fun w1 s ad n cap e d => float_one true s ad n cap e w1 d) (fun w1 s ad n cap e d => float_zero s ad n cap e w1 (by rw [zU (by decide)] at d; exact d))
end Go.Proofs.YthilajhciifhaaaGreatDoor
namespace Go.Proofs.YthilajhciifhaaaGreatDoor
open Go.RowKit
set_option linter.unusedVariables false

end Go.Proofs.YthilajhciifhaaaGreatDoor
namespace Go.Proofs.YthilajhciifhaaaGreatDoor
open Go.RowKit
set_option linter.unusedVariables false

end Go.Proofs.YthilajhciifhaaaGreatDoor
namespace Go.Proofs.YthilajhciifhaaaGreatDoor
open Go.RowKit
set_option linter.unusedVariables false

end Go.Proofs.YthilajhciifhaaaGreatDoor
namespace Go.Proofs.YthilajhciifhaaaGreatDoor
open Go.RowKit
set_option linter.unusedVariables false

set_option maxHeartbeats 1600000 in
/-- SameDyad of two dyads, right or not, of one sign, one power, and one row of limbs -/
theorem sameD23 (s : Bool) (ad1 ad2 : Option Addr) (n c1 c2 : Nat) (e : Int) (xs : List Nat) (w : World) (rx : Row w ad1 n c1 xs) (ry : Row w ad2 n c2 xs) :
    Calls Tryz.prog 23 #[.agg #[.bool s, .slice ad1 n c1, .int .i64 e], .agg #[.bool s, .slice ad2 n c2, .int .i64 e]] w fun r w' => r = .returned (.bool true) ∧ Gr w w' := by
  have H39 : Hid (∀ w1, Gr w w1 → Calls Tryz.prog 66 #[.slice ad1 n c1, .slice ad2 n c2] w1 fun r w' => r = .returned (.bool true) ∧ Gr w1 w') := fun w1 g => sameLimbs39 ad1 ad2 n c1 c2 xs w1 (rx.gr g) (ry.gr g)
  clear rx ry
  have TB : Hid _ := two_blocks w (.bool s) (.slice ad1 n c1) (.int .i64 e) (.bool s) (.slice ad2 n c2) (.int .i64 e) _ rfl
  go_enter Tryz.func23, Tryz.ntmps23
  go_wp2_with (go_at_call 66; (with_reducible refine (H39.out _ (gr2 _ _)).mono ?_); rintro r w1 ⟨rfl, g1⟩; have k := keep6 g1 TB.out; have k2 := k.1.2.2.1; have k5 := k.1.2.2.2.2.2)
  go_ret
  exact ⟨rfl, k.2⟩
end Go.Proofs.YthilajhciifhaaaGreatDoor
namespace Go.Proofs.YthilajhciifhaaaGreatDoor
open Go.RowKit
open Ieee
set_option linter.unusedVariables false

/-! WHAT THE STATEMENT HOLDS AGAINST EACH OTHER -/
theorem sameV {w : World} {s1 s2 : Bool} {a1 a2 : Option Addr} {n1 n2 c1 c2 : Nat} {e1 e2 V : Int} (d1 : DyV w s1 a1 n1 c1 e1 V) (d2 : DyV w s2 a2 n2 c2 e2 V) :
    Calls Tryz.prog 23 #[.agg #[.bool s1, .slice a1 n1 c1, .int .i64 e1], .agg #[.bool s2, .slice a2 n2 c2, .int .i64 e2]] w fun r w' => r = .returned (.bool true) ∧ Gr w w' := by
  obtain ⟨x, dx, hx⟩ := d1
  obtain ⟨y, dy, hy⟩ := d2
  obtain ⟨rfl, rfl, rfl⟩ := sv_one dx.right dy.right (hx.trans hy.symm)
  obtain ⟨xs, rx, gx⟩ := dx.lim
  obtain ⟨ys, ry, gy⟩ := dy.lim
  obtain rfl := gx.unique (by omega) gy
  obtain rfl : n1 = n2 := by rw [← rx.len, ← ry.len]
  exact sameD23 s1 a1 a2 n1 c1 c2 e1 xs w rx ry
set_option maxHeartbeats 1600000 in
theorem sameGapW (s1 s2 s3 s4 : Bool) (a1 a2 a3 a4 : Option Addr) (n1 n2 n3 n4 c1 c2 c3 c4 : Nat) (e1 e2 e3 e4 : Int) (w : World)
    (S1 : Hid (∀ w1, Gr w w1 → Calls Tryz.prog 23 #[.agg #[.bool s1, .slice a1 n1 c1, .int .i64 e1], .agg #[.bool s3, .slice a3 n3 c3, .int .i64 e3]] w1 fun r w' => r = .returned (.bool true) ∧ Gr w1 w'))
    (S2 : Hid (∀ w1, Gr w w1 → Calls Tryz.prog 23 #[.agg #[.bool s2, .slice a2 n2 c2, .int .i64 e2], .agg #[.bool s4, .slice a4 n4 c4, .int .i64 e4]] w1 fun r w' => r = .returned (.bool true) ∧ Gr w1 w')) :
    Calls Tryz.prog 29 #[.agg #[.bool s1, .slice a1 n1 c1, .int .i64 e1, .bool s2, .slice a2 n2 c2, .int .i64 e2], .agg #[.bool s3, .slice a3 n3 c3, .int .i64 e3, .bool s4, .slice a4 n4 c4, .int .i64 e4]] w fun r w' => r = .returned (.bool true) ∧ Gr w w' := by
  obtain ⟨B1, B2⟩ := box_two w (.cells #[.bool s1, .slice a1 n1 c1, .int .i64 e1, .bool s2, .slice a2 n2 c2, .int .i64 e2] 51) (.cells #[.bool s3, .slice a3 n3 c3, .int .i64 e3, .bool s4, .slice a4 n4 c4, .int .i64 e4] 51)
  have B1 := hide B1
  have B2 := hide B2
  have G0 : Gr w ((w.alloc (.cells #[.bool s1, .slice a1 n1 c1, .int .i64 e1, .bool s2, .slice a2 n2 c2, .int .i64 e2] 51)).alloc (.cells #[.bool s3, .slice a3 n3 c3, .int .i64 e3, .bool s4, .slice a4 n4 c4, .int .i64 e4] 51)) := gr2 _ _
  have tok : True := trivial
  go_enter Tryz.func29, Tryz.ntmps29
  go_wp2_with (first | (go_at_call 23; have _t := tok; (with_reducible refine (S1.out _ G0).mono ?_); rintro r w1 ⟨rfl, g1⟩; clear tok; have P1 := g1.keepH B1.out; have P2 := g1.keepH B2.out; have G1 := G0.trans g1; obtain ⟨x0, x1, x2, x3, x4, x5, -⟩ := out6 P1; obtain ⟨y0, y1, y2, y3, y4, y5, -⟩ := out6 P2) | (go_at_call 23; (with_reducible refine (S2.out _ G1).mono ?_); rintro r w2 ⟨rfl, g2⟩))
  go_ret
  exact ⟨rfl, G1.trans g2⟩
theorem sameGap {w : World} {u v : Value} {L H : Int} (h1 : Gv w u L H) (h2 : Gv w v L H) : Calls Tryz.prog 29 #[u, v] w fun r w' => r = .returned (.bool true) ∧ Gr w w' := by
  obtain ⟨s1, a1, n1, c1, e1, s2, a2, n2, c2, e2, rfl, p1, p2⟩ := h1
  obtain ⟨s3, a3, n3, c3, e3, s4, a4, n4, c4, e4, rfl, q1, q2⟩ := h2
  exact sameGapW s1 s2 s3 s4 a1 a2 a3 a4 n1 n2 n3 n4 c1 c2 c3 c4 e1 e2 e3 e4 w (fun w1 g => sameV (p1.gr g) (q1.gr g)) (fun w1 g => sameV (p2.gr g) (q2.gr g))
theorem of25 (s : Bool) (v : Nat) (e : Int) (w : World) (q : Nat) (v0 : v = 2 * q + 1) (v1 : v < 18446744073709551616) (e1 : -1048576 ≤ e) (e2 : e ≤ 1048576) :
    Calls Tryz.prog 25 #[.bool s, .int .u64 (v : Int), .int .i64 e] w fun r w' => (∃ ad cap, r = .returned (.agg #[.bool s, .slice ad 1 cap, .int .i64 e]) ∧ DyV w' s ad 1 cap e (sv KK s v e)) ∧ Gr w w' := by
  have V0 := hide v0
  have v2 : 0 < v := by omega
  clear v0
  go_enter Tryz.func25, Tryz.ntmps25
  go_wp2
  exact bodyPost_ret (v := .agg #[.bool s, .slice (some ⟨w.heap.size + 1, 0, none⟩) 1 1, .int .i64 e]) (by simp [results, Tryz.results25, go_sem]) rfl ⟨⟨_, _, rfl, v, ⟨one_limb w _ v v2 v1, by omega, Or.inr ⟨q, V0.out, e1, e2⟩⟩, rfl⟩, gr2 _ _⟩
theorem zeroDy (w : World) : DyV w false none 0 0 0 0 := ⟨0, ⟨⟨[], Row.empty (by omega) (fun _ => rfl), Dg.nil⟩, by omega, Or.inl ⟨rfl, rfl, rfl⟩⟩, sv_zero _ _ _⟩
theorem gr3 {w : World} (o1 o2 o3 : Obj) : Gr w (((w.alloc o1).alloc o2).alloc o3) := (((Gr.refl w).alloc o1).alloc o2).alloc o3
set_option maxHeartbeats 1600000 in
theorem isW (s1 s2 s3 s4 : Bool) (a1 a2 a3 a4 : Option Addr) (n1 n2 n3 n4 c1 c2 c3 c4 : Nat) (e1 e2 e3 e4 : Int) (w : World)
    (S : Hid (∀ w1, Gr w w1 → Calls Tryz.prog 29 #[.agg #[.bool s1, .slice a1 n1 c1, .int .i64 e1, .bool s2, .slice a2 n2 c2, .int .i64 e2], .agg #[.bool s3, .slice a3 n3 c3, .int .i64 e3, .bool s4, .slice a4 n4 c4, .int .i64 e4]] w1 fun r w' => r = .returned (.bool true) ∧ Gr w1 w')) :
    Calls Tryz.prog 28 #[.agg #[.bool s1, .slice a1 n1 c1, .int .i64 e1, .bool s2, .slice a2 n2 c2, .int .i64 e2], .int .i64 0, .agg #[.bool s3, .slice a3 n3 c3, .int .i64 e3], .agg #[.bool s4, .slice a4 n4 c4, .int .i64 e4]] w fun r w' => r = .returned (.bool true) ∧ Gr w w' := by
  have G0 : Gr w (((w.alloc (.cells #[.bool s1, .slice a1 n1 c1, .int .i64 e1, .bool s2, .slice a2 n2 c2, .int .i64 e2] 51)).alloc (.cells #[.bool s3, .slice a3 n3 c3, .int .i64 e3] 24)).alloc (.cells #[.bool s4, .slice a4 n4 c4, .int .i64 e4] 24)) := gr3 _ _ _
  go_enter Tryz.func28, Tryz.ntmps28
  go_wp2_with (go_at_call 29; (with_reducible refine (S.out _ G0).mono ?_); rintro r w1 ⟨rfl, g1⟩)
  go_ret
  exact ⟨rfl, G0.trans g1⟩
theorem is28 {w : World} {u : Value} {L H : Int} {s3 s4 : Bool} {a3 a4 : Option Addr} {n3 n4 c3 c4 : Nat} {e3 e4 : Int} (h : Gv w u L H) (q1 : DyV w s3 a3 n3 c3 e3 L) (q2 : DyV w s4 a4 n4 c4 e4 H) :
    Calls Tryz.prog 28 #[u, .int .i64 0, .agg #[.bool s3, .slice a3 n3 c3, .int .i64 e3], .agg #[.bool s4, .slice a4 n4 c4, .int .i64 e4]] w fun r w' => r = .returned (.bool true) ∧ Gr w w' := by
  obtain ⟨s1, a1, n1, c1, e1, s2, a2, n2, c2, e2, rfl, p1, p2⟩ := h
  exact isW s1 s2 s3 s4 a1 a2 a3 a4 n1 n2 n3 n4 c1 c2 c3 c4 e1 e2 e3 e4 w (fun w1 g => sameGapW s1 s2 s3 s4 a1 a2 a3 a4 n1 n2 n3 n4 c1 c2 c3 c4 e1 e2 e3 e4 w1 (fun w2 g2 => sameV (p1.gr (g.trans g2)) (q1.gr (g.trans g2))) (fun w2 g2 => sameV (p2.gr (g.trans g2)) (q2.gr (g.trans g2))))
theorem same75 (x : Nat) (w : World) : Calls Tryz.prog 75 #[.float .f64 x, .float .f64 x] w fun r w' => r = .returned (.bool true) ∧ w' = w := by
  have h1 := Fl.bits14
  have h2 : ((x : Int) == (x : Int)) = true := by simp
  go_enter Tryz.func75, Tryz.ntmps75
  go_wp2
  go_ret
  exact ⟨rfl, rfl⟩
theorem sameBoth31 (x y : Nat) (w : World) : Calls Tryz.prog 31 #[.complex .f64 x y, .complex .f64 x y] w fun r w' => r = .returned (.bool true) ∧ w' = w := by
  go_enter Tryz.func31, Tryz.ntmps31
  go_wp2_with (go_at_call 75; (with_reducible refine (same75 _ _).mono ?_); rintro r w1 ⟨rfl, rfl⟩)
  go_ret
  exact ⟨rfl, rfl⟩
end Go.Proofs.YthilajhciifhaaaGreatDoor
