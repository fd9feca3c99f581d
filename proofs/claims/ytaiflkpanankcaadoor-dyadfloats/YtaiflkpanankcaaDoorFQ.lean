import Derived.Test.YtaiflkpanankcaaDoorFG
import Derived.Test.YtaiflkpanankcaaDoorXP
import Derived.Test.YtaiflkpanankcaaDoorXT
namespace Go.Proofs.YtaiflkpanankcaaDoor.Fl
open Go.RowKit
open Ieee
set_option linter.unusedVariables false

theorem next_z (x y : Nat) (w : World) (h1 : nanB x = false) (h2 : nanB y = false) (h3 : (FloatKind.f64.format.order x y == some .eq) = false) (h4 : (FloatKind.f64.format.order x 0 == some .eq) = true) :
    Calls Tryd.prog 52 #[.float .f64 x, .float .f64 y] w fun e w' => e = .returned (.float .f64 (copyN 1 y)) ∧ w' = w := by
  have b1 := bits14
  have b2 := from13
  go_enter Tryd.func52, Tryd.ntmps52
  go_wp2_with (first | (go_at_call 43; refine (nan11 _ _).mono ?_; rintro e w' ⟨rfl, rfl⟩) | (go_at_call 49; refine (copy49 _ _ _).mono ?_; rintro e w' ⟨rfl, rfl⟩))
  go_ret
  exact ⟨rfl, rfl⟩
theorem next_i (x y : Nat) (w : World) (hx : x + 1 < 18446744073709551616) (h1 : nanB x = false) (h2 : nanB y = false) (h3 : (FloatKind.f64.format.order x y == some .eq) = false) (h4 : (FloatKind.f64.format.order x 0 == some .eq) = false)
    (B : Bool) (h5 : (FloatKind.f64.format.order y x == some .gt) = B) (h6 : (FloatKind.f64.format.order x 0 == some .gt) = B) :
    Calls Tryd.prog 52 #[.float .f64 x, .float .f64 y] w fun e w' => e = .returned (.float .f64 (x + 1)) ∧ w' = w := by
  have b1 := bits14
  have b2 := from13
  go_enter Tryd.func52, Tryd.ntmps52
  go_wp2_with (first | (go_at_call 43; refine (nan11 _ _).mono ?_; rintro e w' ⟨rfl, rfl⟩) | (go_at_call 49; refine (copy49 _ _ _).mono ?_; rintro e w' ⟨rfl, rfl⟩))
  go_ret
  refine ⟨?_, rfl⟩
  show Ending.returned (.float .f64 _) = _
  congr 2
theorem next_d (x y : Nat) (w : World) (hx : x < 18446744073709551616) (hx0 : 0 < x) (h1 : nanB x = false) (h2 : nanB y = false) (h3 : (FloatKind.f64.format.order x y == some .eq) = false) (h4 : (FloatKind.f64.format.order x 0 == some .eq) = false)
    (B : Bool) (h5 : (FloatKind.f64.format.order y x == some .gt) = B) (h6 : (FloatKind.f64.format.order x 0 == some .gt) = !B) :
    Calls Tryd.prog 52 #[.float .f64 x, .float .f64 y] w fun e w' => e = .returned (.float .f64 (x - 1)) ∧ w' = w := by
  have b1 := bits14
  have b2 := from13
  cases B
  · rw [Bool.not_false] at h6
    go_enter Tryd.func52, Tryd.ntmps52
    go_wp2_with (first | (go_at_call 43; refine (nan11 _ _).mono ?_; rintro e w' ⟨rfl, rfl⟩) | (go_at_call 49; refine (copy49 _ _ _).mono ?_; rintro e w' ⟨rfl, rfl⟩))
    go_ret
    refine ⟨?_, rfl⟩
    show Ending.returned (.float .f64 _) = _
    congr 2
  · rw [Bool.not_true] at h6
    go_enter Tryd.func52, Tryd.ntmps52
    go_wp2_with (first | (go_at_call 43; refine (nan11 _ _).mono ?_; rintro e w' ⟨rfl, rfl⟩) | (go_at_call 49; refine (copy49 _ _ _).mono ?_; rintro e w' ⟨rfl, rfl⟩))
    go_ret
    refine ⟨?_, rfl⟩
    show Ending.returned (.float .f64 _) = _
    congr 2
end Go.Proofs.YtaiflkpanankcaaDoor.Fl

namespace Go.Proofs.YtaiflkpanankcaaDoor.Fl
open Go.RowKit
open Ieee
set_option linter.unusedVariables false

theorem two_forms {m n P Q : Nat} (hm : 4503599627370496 ≤ m) (hm' : m < 9007199254740992) (hn : 4503599627370496 ≤ n) (hn' : n < 9007199254740992) (h : m * 2 ^ P = n * 2 ^ Q) : m = n ∧ P = Q := by
  have key : ∀ {m n P Q : Nat}, 4503599627370496 ≤ m → n < 9007199254740992 → m * 2 ^ P = n * 2 ^ Q → P ≤ Q := by
    intro m n P Q hm hn h
    refine Nat.le_of_not_lt fun hlt => ?_
    obtain ⟨d, rfl⟩ : ∃ d, P = Q + 1 + d := ⟨P - Q - 1, by omega⟩
    have e : m * 2 ^ (Q + 1 + d) = m * (2 * 2 ^ d) * 2 ^ Q := by rw [Nat.pow_add, Nat.pow_succ]; ac_rfl
    rw [e] at h
    have h2 := Nat.eq_of_mul_eq_mul_right (Nat.two_pow_pos Q) h
    have h3 : m * (2 * 1) ≤ m * (2 * 2 ^ d) := Nat.mul_le_mul_left _ (Nat.mul_le_mul_left _ (Nat.two_pow_pos d))
    omega
  have h1 := key hm hn' h
  have h2 := key hn hm' h.symm
  obtain rfl : P = Q := by omega
  exact ⟨Nat.eq_of_mul_eq_mul_right (Nat.two_pow_pos P) h, rfl⟩
theorem lt_zero (s : Bool) (r : Nat) (h0 : 0 < r) (hr : r < 9218868437227405312) : (FloatKind.f64.format.order (W s r) 0 == some .lt) = s := by
  have := B_lt s false r 0 (by omega) (by omega)
  rw [show W false 0 = 0 from rfl] at this
  rw [this, val_zero]
  have := M_pos h0
  unfold val
  cases s
  · exact decide_eq_false (by simp only [Bool.false_eq_true, if_false]; omega)
  · exact decide_eq_true (by simp only [if_true]; omega)
/-- the worth of a float -/
theorem sv_same (s : Bool) (m r P : Nat) (hP : P ≤ 2097) (h : M r * 2 ^ 52 = m * 2 ^ P) : sv KK s m ((P : Int) - 1126) = sv KK s (mant r) ((ex r : Int) - 1074) := by
  have hkk := KK_eq
  have key : m * 2 ^ ((P : Int) - 1126 + KK).toNat = mant r * 2 ^ ((ex r : Int) - 1074 + KK).toNat := by
    have e1 : ((P : Int) - 1126 + KK).toNat = P + 4193178 := by omega
    have e2 : ((ex r : Int) - 1074 + KK).toNat = ex r + 52 + 4193178 := by omega
    rw [e1, e2, Nat.pow_add, Nat.pow_add 2 (ex r + 52), ← Nat.mul_assoc, ← Nat.mul_assoc, ← h, Nat.pow_add 2 (ex r), ← Nat.mul_assoc]
    rfl
  unfold sv
  rw [key]
/-- Of, of a number: its worth -/
theorem of21 (s : Bool) (r : Nat) (w : World) (hr : r < 9218868437227405312) (hT : TabAt 1 Lib.deBruijn64tab w) :
    Calls Tryd.prog 21 #[.float .f64 (W s r)] w fun res w' => (∃ (s' : Bool) (x' : Nat) (e' : Int), 0 ≤ e' + KK ∧ sv KK s' x' e' = sv KK s (mant r) ((ex r : Int) - 1074) ∧ Settled w' res s' x' e') ∧ Gr w w' := by
  have hkk := KK_eq
  have he : ex r ≤ 2047 := by unfold ex; omega
  by_cases h0 : r = 0
  · subst h0
    have z0 : zeroB (W s 0) = true := by rw [zeroB_W s 0 (by omega)]; rfl
    have f2 : pinfB (absN (W s 0)) = false := by
      rw [abs_W s 0 (by omega)]
      have := pinfB_W false 0 (by omega)
      rw [show W false 0 = 0 from rfl] at this
      rw [this]; rfl
    have f1 : nanB (W s 0) = false := by rw [nanB_W s 0 (by omega)]; rfl
    have z1 : (zeroB (absN (W s 0)) || pinfB (absN (absN (W s 0)))) = true := by
      rw [abs_W s 0 (by omega)]
      have := zeroB_W false 0 (by omega)
      rw [show W false 0 = 0 from rfl] at this
      rw [this]; rfl
    have hs : (FloatKind.f64.format.order (W s 0) 0 == some .lt) = false := by
      have := B_lt s false 0 0 (by omega) (by omega)
      rw [show W false 0 = 0 from rfl] at this
      rw [this, val_zero, val_zero]; rfl
    have hc : ∀ w, (convert 41 39 (.float .f64 (absN (W s 0)))).run Tryd.prog w = .ok (.int .u64 ((0 : Nat) : Int)) w := fun w => by
      rw [abs_W s 0 (by omega)]
      have := toU_W 0 (by omega) (by rw [M_zero, Nat.zero_div]; omega)
      rw [show W false 0 = 0 from rfl, M_zero, Nat.zero_div] at this
      exact run_convert_float_int (P := Tryd.prog) w 41 39 .f64 .u64 0 _ (by kernel_rfl) (by kernel_rfl) this
    refine (of4 (W s 0) (W s 0) (absN (W s 0)) 0 false 0 w f1 f2 (fun w => frexp69 _ _ _ w (fun w => frexp85z _ w z0)) (fun w => ldexp_same _ 53 w z1) hc hs (by omega) (by omega) (by omega) hT).mono ?_
    rintro res w' ⟨hS, hg⟩
    refine ⟨⟨false, 0, _, by omega, ?_, hS⟩, hg⟩
    rw [sv_zero, show mant 0 = 0 from rfl, sv_zero]
  · have h0' : 0 < r := by omega
    obtain ⟨f0, f2, f1⟩ := fin_facts s r h0' hr
    obtain ⟨m, P, hm, hm', hP, hM, HF⟩ := frexp_spec s r h0' hr
    have hlt : 1021 * 4503599627370496 + m < 9218868437227405312 := by omega
    have habs : absN (W s (1021 * 4503599627370496 + m)) = W false (1021 * 4503599627370496 + m) := abs_W s _ (by omega)
    obtain ⟨m', P', hn, hn', hP', hM', HL⟩ := ldexp_spec false (1021 * 4503599627370496 + m) (by omega) hlt
    have hMm : M (1021 * 4503599627370496 + m) = m * 2 ^ E21 := M_at E21 m (Or.inl ⟨hm, by omega⟩)
    rw [hMm, Nat.mul_assoc, ← Nat.pow_add] at hM'
    obtain ⟨rfl, hPP⟩ := two_forms hm hm' hn hn' hM'
    have hE21 := E21_eq
    have hL := HL 53 1074 (by omega) (by omega) (by omega) (by omega)
    have hMz : M (1074 * 4503599627370496 + m) = m * U := M_at E74 m (Or.inl ⟨hm, by omega⟩)
    have hc : ∀ w, (convert 41 39 (.float .f64 (W false (1074 * 4503599627370496 + m)))).run Tryd.prog w = .ok (.int .u64 (m : Int)) w := fun w => by
      have hq : M (1074 * 4503599627370496 + m) / U = m := by rw [hMz]; exact Nat.mul_div_cancel _ U_pos
      have := toU_W (1074 * 4503599627370496 + m) (by omega) (by rw [hq]; omega)
      rw [hq] at this
      exact run_convert_float_int (P := Tryd.prog) w 41 39 .f64 .u64 _ _ (by kernel_rfl) (by kernel_rfl) this
    refine (of4 (W s r) _ _ m s ((P : Int) - 1073) w f1 f2 HF (by rw [habs]; exact hL) hc (lt_zero s r h0' hr) (by omega) (by omega) (by omega) hT).mono ?_
    rintro res w' ⟨hS, hg⟩
    refine ⟨⟨s, m, _, by omega, ?_, hS⟩, hg⟩
    rw [show (P : Int) - 1073 - 53 = (P : Int) - 1126 by omega]
    exact sv_same s m r P hP hM

theorem sv_val (s : Bool) (r : Nat) : sv KK s (mant r) ((ex r : Int) - 1074) = val s r * (DD : Int) := by
  have hkk := KK_eq
  have key : mant r * 2 ^ ((ex r : Int) - 1074 + KK).toNat = M r * DD := by
    rw [DD_eq, show ((ex r : Int) - 1074 + KK).toNat = ex r + (KK - 1074).toNat by omega, Nat.pow_add, ← Nat.mul_assoc]
    rfl
  unfold sv val
  rw [key]
  cases s
  · simp only [Bool.false_eq_true, if_false, Int.natCast_mul]
  · simp only [if_true, Int.natCast_mul, Int.neg_mul]
/-- Of, of a number: the right dyad of its worth -/
theorem ofG (s : Bool) (r : Nat) (w : World) (hr : r < 9218868437227405312) (hT : TabAt 1 Lib.deBruijn64tab w) :
    Calls Tryd.prog 21 #[.float .f64 (W s r)] w fun res w' => ∃ s' ad n cap e', res = .returned (.tuple #[.agg #[.bool s', .slice ad n cap, .int .i64 e'], .int .i64 0]) ∧ Hid (DyV w' s' ad n cap e' (val s r * (DD : Int))) ∧ Gr w w' := by
  refine (of21 s r w hr hT).mono ?_
  rintro res w' ⟨⟨s', x', e', h1, h2, h3⟩, hg⟩
  have hex : ex r ≤ 2046 := by unfold ex; omega
  have hgd : Gd 20000 42560 (val s r * (DD : Int)) := by
    rw [← sv_val]
    exact gd_of (n := 53) (mant_lt r) (by omega) (by omega) (by omega)
  obtain ⟨s2, ad, n, cap, e2, rfl, hd⟩ := Settled.dyv h3 (h2.trans (sv_val s r)) hgd h1 (by omega) (by omega)
  exact ⟨s2, ad, n, cap, e2, rfl, hd, hg⟩
theorem B_gt (s t : Bool) (a b : Nat) (ha : a ≤ 9218868437227405312) (hb : b ≤ 9218868437227405312) : (FloatKind.f64.format.order (W s a) (W t b) == some .gt) = decide (val t b < val s a) := by
  rw [f64_format, order_W s t a b ha hb]
  rcases Int.lt_trichotomy (val s a) (val t b) with h | h | h
  · rw [compare_lt h, decide_eq_false (by omega)]; rfl
  · rw [compare_eq h, decide_eq_false (by omega)]; rfl
  · rw [compare_gt h, decide_eq_true h]; rfl
theorem B_eq (s t : Bool) (a b : Nat) (ha : a ≤ 9218868437227405312) (hb : b ≤ 9218868437227405312) : (FloatKind.f64.format.order (W s a) (W t b) == some .eq) = decide (val s a = val t b) := by
  rw [f64_format, order_W s t a b ha hb]
  rcases Int.lt_trichotomy (val s a) (val t b) with h | h | h
  · rw [compare_lt h, decide_eq_false (by omega)]; rfl
  · rw [compare_eq h, decide_eq_true h]; rfl
  · rw [compare_gt h, decide_eq_false (by omega)]; rfl
/-- WHAT Nextafter TELLS towards an infinity -/
theorem next52 (s up : Bool) (r : Nat) (w : World) (hr : r < 9218868437227405312) :
    Calls Tryd.prog 52 #[.float .f64 (W s r), .float .f64 (W (!up) 9218868437227405312)] w fun e w' => e = .returned (.float .f64 (if r = 0 then W (!up) 1 else if s = up then W s (r - 1) else W s (r + 1))) ∧ w' = w := by
  have h1 : nanB (W s r) = false := by rw [nanB_W s r (by omega)]; exact decide_eq_false (by omega)
  have h2 : nanB (W (!up) 9218868437227405312) = false := by rw [nanB_W _ _ (by omega)]; exact decide_eq_false (by omega)
  have hlt := M_lt hr
  have h3 : (FloatKind.f64.format.order (W s r) (W (!up) 9218868437227405312) == some .eq) = false := by
    rw [B_eq s (!up) r _ (by omega) (by omega)]
    refine decide_eq_false ?_
    unfold val
    cases s <;> cases up <;> simp <;> omega
  by_cases h0 : r = 0
  · subst h0
    have h4 : (FloatKind.f64.format.order (W s 0) 0 == some .eq) = true := by
      have := zeroB_W s 0 (by omega)
      exact this
    have := next_z (W s 0) (W (!up) 9218868437227405312) w h1 h2 h3 h4
    rw [show copyN 1 (W (!up) 9218868437227405312) = W (!up) 1 by cases up <;> kernel_rfl] at this
    exact this
  · rw [if_neg h0]
    have h4 : (FloatKind.f64.format.order (W s r) 0 == some .eq) = false := by
      have := zeroB_W s r (by omega)
      rw [decide_eq_false h0] at this
      exact this
    have h5 : (FloatKind.f64.format.order (W (!up) 9218868437227405312) (W s r) == some .gt) = up := by
      rw [B_gt (!up) s _ r (by omega) (by omega)]
      unfold val
      cases up
      · refine decide_eq_false ?_
        cases s <;> simp <;> omega
      · refine decide_eq_true ?_
        cases s <;> simp <;> omega
    have h6 : (FloatKind.f64.format.order (W s r) 0 == some .gt) = !s := by
      have := posB_W s r (by omega)
      rw [decide_eq_true h0, Bool.and_true] at this
      exact this
    have hW := W_lt s r (by omega)
    by_cases hs : s = up
    · rw [if_pos hs]
      have := next_d (W s r) (W (!up) 9218868437227405312) w hW (by unfold W; split <;> omega) h1 h2 h3 h4 up h5 (by rw [h6, hs])
      rw [show W s r - 1 = W s (r - 1) by unfold W; split <;> omega] at this
      exact this
    · rw [if_neg hs]
      have := next_i (W s r) (W (!up) 9218868437227405312) w (by unfold W; split <;> omega) h1 h2 h3 h4 up h5 (by rw [h6]; cases s <;> cases up <;> simp_all)
      rw [show W s r + 1 = W s (r + 1) by unfold W; split <;> omega] at this
      exact this
end Go.Proofs.YtaiflkpanankcaaDoor.Fl

namespace Go.Proofs.YtaiflkpanankcaaDoor.Fl
open Go.RowKit
open Ieee
set_option linter.unusedVariables false

theorem DyV_abs {w : World} {s : Bool} {ad : Option Addr} {n cap : Nat} {e V : Int} (h : DyV w s ad n cap e V) : DyV w false ad n cap e (V.natAbs : Int) := by
  obtain ⟨x, dx, rfl⟩ := h
  refine ⟨x, ⟨dx.lim, dx.le, ?_⟩, ?_⟩
  · rcases dx.right with ⟨h1, _, h3⟩ | h
    · exact Or.inl ⟨h1, rfl, h3⟩
    · exact Or.inr h
  · rw [sv_abs]; unfold sv; simp only [Bool.false_eq_true, if_false]
set_option maxRecDepth 100000 in
set_option maxHeartbeats 6400000 in
theorem near24 (sd : Bool) (ad : Option Addr) (n cap : Nat) (e V : Int) (s : Bool) (R : Nat) (w : World) (dV : DyV w sd ad n cap e V) (gV : Gd 20000 42560 V) (hR : R < 9218868437227405312) (hT : TabAt 1 Lib.deBruijn64tab w)
    (z : Bool → Bool) (zr : Bool → Nat) (hz : ∀ up, (if R = 0 then W (!up) 1 else if s = up then W s (R - 1) else W s (R + 1)) = W (z up) (zr up) ∧ zr up ≤ 9218868437227405312)
    (hn : ∀ up, zr up < 9218868437227405312 → (V - val s R * (DD : Int)).natAbs < (V - val (z up) (zr up) * (DD : Int)).natAbs ∨ ((V - val s R * (DD : Int)).natAbs = (V - val (z up) (zr up) * (DD : Int)).natAbs ∧ R % 2 = 0)) :
    Calls Tryd.prog 24 #[.agg #[.bool sd, .slice ad n cap, .int .i64 e], .float .f64 (W s R)] w fun r w' => r = .returned (.bool true) ∧ Gr w w' := by
  have gd : ∀ (s : Bool) (r : Nat), r < 9218868437227405312 → Gd 20000 42560 (val s r * (DD : Int)) := fun s r hr => by
    rw [← sv_val]
    have hex : ex r ≤ 2046 := by unfold ex; omega
    exact gd_of (n := 53) (mant_lt r) (by omega) (by omega) (by omega)
  have OF : ∀ (s : Bool) (r : Nat), r < 9218868437227405312 → ∀ w1, Gr w w1 → Calls Tryd.prog 21 #[.float .f64 (W s r)] w1 fun res w' => ∃ s' ad n cap e', res = .returned (.tuple #[.agg #[.bool s', .slice ad n cap, .int .i64 e'], .int .i64 0]) ∧ Hid (DyV w' s' ad n cap e' (val s r * (DD : Int))) ∧ Gr w1 w' := fun s r hr w1 g => ofG s r w1 hr (tab_gr hT g)
  have SB : ∀ (U : Int), Gd 20000 42560 U → ∀ t a m c f w1, Gr w w1 → DyV w1 t a m c f U → Calls Tryd.prog 11 #[.agg #[.bool sd, .slice ad n cap, .int .i64 e], .agg #[.bool t, .slice a m c, .int .i64 f]] w1 fun r w' => ∃ s' ad n cap e', r = .returned (.tuple #[.agg #[.bool s', .slice ad n cap, .int .i64 e'], .int .i64 0]) ∧ Hid (DyV w' s' ad n cap e' (V - U)) ∧ Gr w1 w' := fun U gU t a m c f w1 g hd => subG sd t ad a n m cap c e f V U w1 20000 42560 (dV.gr g) hd (tab_gr hT g) gV gU (by omega) (by omega)
  have O0 : Hid _ := OF s R hR
  have S0 : Hid _ := SB _ (gd s R hR)
  have hpar : (((W s R : Nat) : Int) % 2 != 0) = decide (R % 2 = 1) := by
    have hw : W s R % 2 = R % 2 := by unfold W; split <;> omega
    have h1 : ((W s R : Nat) : Int) % 2 = ((R % 2 : Nat) : Int) := by omega
    rw [h1]
    by_cases h : R % 2 = 1
    · rw [h]; rfl
    · rw [show R % 2 = 0 by omega]; rfl
  have NX : ∀ up, Hid (∀ w, Calls Tryd.prog 52 #[.float .f64 (W s R), .float .f64 (W (!up) 9218868437227405312)] w fun e w' => e = .returned (.float .f64 (W (z up) (zr up))) ∧ w' = w) := fun up w => by
    have := next52 s up R w hR
    rw [(hz up).1] at this
    exact this
  have ZF : ∀ up, zr up < 9218868437227405312 → Hid (∀ w, (binOp .sub 41 (.float .f64 (W (z up) (zr up))) (.float .f64 (W (z up) (zr up)))).run Tryd.prog w = .ok (.float .f64 0) w) := fun up h w => sub_run w _ _ _ (sub_self _ _ h)
  have ZN : ∀ up, ¬ zr up < 9218868437227405312 → Hid (∀ w, ∃ q, (binOp .sub 41 (.float .f64 (W (z up) (zr up))) (.float .f64 (W (z up) (zr up)))).run Tryd.prog w = .ok (.float .f64 q) w.drew ∧ (FloatKind.f64.format.order q 0 != some .eq) = true) := fun up h w => by
    have h1 := (hz up).2
    obtain ⟨q, h2, h3⟩ := run_float_nan .sub (by simp) 41 (W (z up) (zr up)) (W (z up) (zr up)) w (by
      rw [show zr up = 9218868437227405312 by omega]; exact sub_inf _)
    exact ⟨q, h2, by rw [bne, nan_order q 0 h3]; rfl⟩
  have z00 : (FloatKind.f64.format.order 0 0 != some .eq) = false := by decide +kernel
  have I1 : Hid (∀ w, Calls Tryd.prog 51 #[.int .i64 1] w fun e w' => e = .returned (.float .f64 (W false 9218868437227405312)) ∧ w' = w) := inf51p
  have I2 : Hid (∀ w, Calls Tryd.prog 51 #[.int .i64 (-1)] w fun e w' => e = .returned (.float .f64 (W true 9218868437227405312)) ∧ w' = w) := inf51m
  have NXt : Hid (∀ w, Calls Tryd.prog 52 #[.float .f64 (W s R), .float .f64 (W false 9218868437227405312)] w fun e w' => e = .returned (.float .f64 (W (z true) (zr true))) ∧ w' = w) := NX true
  have NXf : Hid (∀ w, Calls Tryd.prog 52 #[.float .f64 (W s R), .float .f64 (W true 9218868437227405312)] w fun e w' => e = .returned (.float .f64 (W (z false) (zr false))) ∧ w' = w) := NX false
  clear NX
  have b1 := bits14
  have OZ : ∀ up, zr up < 9218868437227405312 → Hid (∀ w1, Gr w w1 → Calls Tryd.prog 21 #[.float .f64 (W (z up) (zr up))] w1 fun res w' => ∃ s' ad n cap e', res = .returned (.tuple #[.agg #[.bool s', .slice ad n cap, .int .i64 e'], .int .i64 0]) ∧ Hid (DyV w' s' ad n cap e' (val (z up) (zr up) * (DD : Int))) ∧ Gr w1 w') := fun up h => OF _ _ h
  have SZ : ∀ up, zr up < 9218868437227405312 → Hid (∀ t a m c f w1, Gr w w1 → DyV w1 t a m c f (val (z up) (zr up) * (DD : Int)) → Calls Tryd.prog 11 #[.agg #[.bool sd, .slice ad n cap, .int .i64 e], .agg #[.bool t, .slice a m c, .int .i64 f]] w1 fun r w' => ∃ s' ad n cap e', r = .returned (.tuple #[.agg #[.bool s', .slice ad n cap, .int .i64 e'], .int .i64 0]) ∧ Hid (DyV w' s' ad n cap e' (V - val (z up) (zr up) * (DD : Int))) ∧ Gr w1 w') := fun up h => SB _ (gd _ _ h)
  clear OF SB gd hz
  have HA : (w.alloc (.cells #[.bool sd, .slice ad n cap, .int .i64 e] 24)).heap[w.heap.size]? = _ := first_block w (.cells #[.bool sd, .slice ad n cap, .int .i64 e] 24)
  have GW : Gr w (w.alloc (.cells #[.bool sd, .slice ad n cap, .int .i64 e] 24)) := (Gr.refl w).alloc _
  clear dV gV hT
  generalize W s R = y at *
  generalize val s R * (DD : Int) = U0 at *
  go_enter Tryd.func24, Tryd.ntmps24
  go_wp2_with (first | (go_at_call 21; (with_reducible refine (O0.out _ GW).mono ?_); rintro r w1 ⟨s1, a1, m1, k1, e1, rfl, D1, g1⟩; have HA1 := ((Gr.refl w1).alloc (.cells #[.bool s1, .slice a1 m1 k1, .int .i64 e1] 24)).keepH (g1.keepH HA); have GW1 := (GW.trans g1).alloc (.cells #[.bool s1, .slice a1 m1 k1, .int .i64 e1] 24); have D1' := D1.out.gr ((Gr.refl w1).alloc (.cells #[.bool s1, .slice a1 m1 k1, .int .i64 e1] 24)); obtain ⟨q0, q1, q2⟩ := cells_of HA1) | (go_at_call 11; (with_reducible refine (S0.out _ _ _ _ _ _ GW1 D1').mono ?_); rintro r w2 ⟨s2, a2, m2, k2, e2, rfl, D2, g2⟩; clear q0 q1 q2))
  have G2 := g2.alloc (.cells #[.bool false, .slice a2 m2 k2, .int .i64 e2] 24)
  have HAq := G2.keepH HA1
  have HOq := first_block w2 (.cells #[.bool false, .slice a2 m2 k2, .int .i64 e2] 24)
  have GQ := GW1.trans G2
  have DO : Hid (DyV (w2.alloc (.cells #[.bool false, .slice a2 m2 k2, .int .i64 e2] 24)) false a2 m2 k2 e2 ((V - U0).natAbs : Int)) := (DyV_abs D2.out).gr ((Gr.refl w2).alloc _)
  clear G2 g1 g2 HA HA1 GW GW1 D1 D1' D2 O0 S0
  generalize w2.alloc (.cells #[.bool false, .slice a2 m2 k2, .int .i64 e2] 24) = wq at *
  generalize w2.heap.size = po at *
  have HAH : Hid _ := HAq
  have HOH : Hid _ := HOq
  clear HAq HOq
  go_loopw [9] (fun i wr => ∃ k : Int, (k = 0 ∨ k = 1 ∨ k = 2) ∧ i = .int .i64 k ∧ Hid (Gr wq wr)) (fun i _ => 2 - (intOf i).toNat)
  case atStart => exact ⟨0, by omega, rfl, Gr.refl _⟩
  case round =>
    obtain ⟨k, hk, rfl, hg⟩ := hrel
    have HAr := hg.out.keepH HAH.out
    have HOr := hg.out.keepH HOH.out
    have GR := GQ.trans hg.out
    rcases hk with rfl | rfl | rfl
    · skip
      by_cases hfz : zr true < 9218868437227405312
      · have hzf := (ZF true hfz).out wr
        rcases hn true hfz with hlt | ⟨heq, hev⟩
        · have hsg : sg (((V - U0).natAbs : Int) - ((V - val (z true) (zr true) * (DD : Int)).natAbs : Int)) = -1 := sg_neg (by omega)
          go_wp2_with (first | (go_at_call 51; (with_reducible refine (I1.out _).mono ?_); rintro r w' ⟨rfl, rfl⟩) | (go_at_call 51; (with_reducible refine (I2.out _).mono ?_); rintro r w' ⟨rfl, rfl⟩) | (go_at_call 52; (with_reducible refine (NXt.out _).mono ?_); rintro r w' ⟨rfl, rfl⟩) | (go_at_call 21; (with_reducible refine ((OZ true hfz).out _ GR).mono ?_); rintro r w3 ⟨s3, a3, m3, k3, e3, rfl, D3, g3⟩; have G3 := g3.alloc (.cells #[.bool s3, .slice a3 m3 k3, .int .i64 e3] 24); have D3' := D3.out.gr ((Gr.refl w3).alloc (.cells #[.bool s3, .slice a3 m3 k3, .int .i64 e3] 24)); obtain ⟨q0, q1, q2⟩ := cells_of (G3.keepH HAr); clear g3) | (go_at_call 11; (with_reducible refine ((SZ true hfz).out _ _ _ _ _ _ (GR.trans G3) D3').mono ?_); rintro r w4 ⟨s4, a4, m4, k4, e4, rfl, D4, g4⟩; clear q0 q1 q2; have G4 := G3.trans (g4.alloc (.cells #[.bool false, .slice a4 m4 k4, .int .i64 e4] 24)); have D4' := (DyV_abs D4.out).gr ((Gr.refl w4).alloc (.cells #[.bool false, .slice a4 m4 k4, .int .i64 e4] 24)); obtain ⟨q0, q1, q2⟩ := cells_of (G4.keepH HOr)) | (go_at_call 13; have CM := cmpG false false a2 a4 m2 m4 k2 k4 e2 e4 _ _ _ (DO.out.gr (hg.out.trans G4)) D4'; rw [hsg] at CM; (with_reducible refine CM.mono ?_); rintro r w5 ⟨rfl, g5⟩; clear q0 q1 q2))
          go_roundw
          case rel => exact ⟨1, by omega, rfl, hg.out.trans (G4.trans g5)⟩
          case measure => simp only [intOf]; omega
        · have hsg : sg (((V - U0).natAbs : Int) - ((V - val (z true) (zr true) * (DD : Int)).natAbs : Int)) = 0 := by rw [heq, Int.sub_self]; rfl
          have hp : ((y : Int) % 2 != 0) = false := by rw [hpar]; exact decide_eq_false (by omega)
          go_wp2_with (first | (go_at_call 51; (with_reducible refine (I1.out _).mono ?_); rintro r w' ⟨rfl, rfl⟩) | (go_at_call 51; (with_reducible refine (I2.out _).mono ?_); rintro r w' ⟨rfl, rfl⟩) | (go_at_call 52; (with_reducible refine (NXt.out _).mono ?_); rintro r w' ⟨rfl, rfl⟩) | (go_at_call 21; (with_reducible refine ((OZ true hfz).out _ GR).mono ?_); rintro r w3 ⟨s3, a3, m3, k3, e3, rfl, D3, g3⟩; have G3 := g3.alloc (.cells #[.bool s3, .slice a3 m3 k3, .int .i64 e3] 24); have D3' := D3.out.gr ((Gr.refl w3).alloc (.cells #[.bool s3, .slice a3 m3 k3, .int .i64 e3] 24)); obtain ⟨q0, q1, q2⟩ := cells_of (G3.keepH HAr); clear g3) | (go_at_call 11; (with_reducible refine ((SZ true hfz).out _ _ _ _ _ _ (GR.trans G3) D3').mono ?_); rintro r w4 ⟨s4, a4, m4, k4, e4, rfl, D4, g4⟩; clear q0 q1 q2; have G4 := G3.trans (g4.alloc (.cells #[.bool false, .slice a4 m4 k4, .int .i64 e4] 24)); have D4' := (DyV_abs D4.out).gr ((Gr.refl w4).alloc (.cells #[.bool false, .slice a4 m4 k4, .int .i64 e4] 24)); obtain ⟨q0, q1, q2⟩ := cells_of (G4.keepH HOr)) | (go_at_call 13; have CM := cmpG false false a2 a4 m2 m4 k2 k4 e2 e4 _ _ _ (DO.out.gr (hg.out.trans G4)) D4'; rw [hsg] at CM; (with_reducible refine CM.mono ?_); rintro r w5 ⟨rfl, g5⟩; clear q0 q1 q2))
          go_roundw
          case rel => exact ⟨1, by omega, rfl, hg.out.trans (G4.trans g5)⟩
          case measure => simp only [intOf]; omega
      · obtain ⟨zq, hzq, hzq2⟩ := (ZN true hfz).out wr
        go_wp2_with (first | (go_at_call 51; (with_reducible refine (I1.out _).mono ?_); rintro r w' ⟨rfl, rfl⟩) | (go_at_call 51; (with_reducible refine (I2.out _).mono ?_); rintro r w' ⟨rfl, rfl⟩) | (go_at_call 52; (with_reducible refine (NXt.out _).mono ?_); rintro r w' ⟨rfl, rfl⟩))
        go_roundw
        case rel => exact ⟨1, by omega, rfl, hg.out.drew⟩
        case measure => simp only [intOf]; omega
    · skip
      by_cases hfz : zr false < 9218868437227405312
      · have hzf := (ZF false hfz).out wr
        rcases hn false hfz with hlt | ⟨heq, hev⟩
        · have hsg : sg (((V - U0).natAbs : Int) - ((V - val (z false) (zr false) * (DD : Int)).natAbs : Int)) = -1 := sg_neg (by omega)
          go_wp2_with (first | (go_at_call 51; (with_reducible refine (I1.out _).mono ?_); rintro r w' ⟨rfl, rfl⟩) | (go_at_call 51; (with_reducible refine (I2.out _).mono ?_); rintro r w' ⟨rfl, rfl⟩) | (go_at_call 52; (with_reducible refine (NXf.out _).mono ?_); rintro r w' ⟨rfl, rfl⟩) | (go_at_call 21; (with_reducible refine ((OZ false hfz).out _ GR).mono ?_); rintro r w3 ⟨s3, a3, m3, k3, e3, rfl, D3, g3⟩; have G3 := g3.alloc (.cells #[.bool s3, .slice a3 m3 k3, .int .i64 e3] 24); have D3' := D3.out.gr ((Gr.refl w3).alloc (.cells #[.bool s3, .slice a3 m3 k3, .int .i64 e3] 24)); obtain ⟨q0, q1, q2⟩ := cells_of (G3.keepH HAr); clear g3) | (go_at_call 11; (with_reducible refine ((SZ false hfz).out _ _ _ _ _ _ (GR.trans G3) D3').mono ?_); rintro r w4 ⟨s4, a4, m4, k4, e4, rfl, D4, g4⟩; clear q0 q1 q2; have G4 := G3.trans (g4.alloc (.cells #[.bool false, .slice a4 m4 k4, .int .i64 e4] 24)); have D4' := (DyV_abs D4.out).gr ((Gr.refl w4).alloc (.cells #[.bool false, .slice a4 m4 k4, .int .i64 e4] 24)); obtain ⟨q0, q1, q2⟩ := cells_of (G4.keepH HOr)) | (go_at_call 13; have CM := cmpG false false a2 a4 m2 m4 k2 k4 e2 e4 _ _ _ (DO.out.gr (hg.out.trans G4)) D4'; rw [hsg] at CM; (with_reducible refine CM.mono ?_); rintro r w5 ⟨rfl, g5⟩; clear q0 q1 q2))
          go_roundw
          case rel => exact ⟨2, by omega, rfl, hg.out.trans (G4.trans g5)⟩
          case measure => simp only [intOf]; omega
        · have hsg : sg (((V - U0).natAbs : Int) - ((V - val (z false) (zr false) * (DD : Int)).natAbs : Int)) = 0 := by rw [heq, Int.sub_self]; rfl
          have hp : ((y : Int) % 2 != 0) = false := by rw [hpar]; exact decide_eq_false (by omega)
          go_wp2_with (first | (go_at_call 51; (with_reducible refine (I1.out _).mono ?_); rintro r w' ⟨rfl, rfl⟩) | (go_at_call 51; (with_reducible refine (I2.out _).mono ?_); rintro r w' ⟨rfl, rfl⟩) | (go_at_call 52; (with_reducible refine (NXf.out _).mono ?_); rintro r w' ⟨rfl, rfl⟩) | (go_at_call 21; (with_reducible refine ((OZ false hfz).out _ GR).mono ?_); rintro r w3 ⟨s3, a3, m3, k3, e3, rfl, D3, g3⟩; have G3 := g3.alloc (.cells #[.bool s3, .slice a3 m3 k3, .int .i64 e3] 24); have D3' := D3.out.gr ((Gr.refl w3).alloc (.cells #[.bool s3, .slice a3 m3 k3, .int .i64 e3] 24)); obtain ⟨q0, q1, q2⟩ := cells_of (G3.keepH HAr); clear g3) | (go_at_call 11; (with_reducible refine ((SZ false hfz).out _ _ _ _ _ _ (GR.trans G3) D3').mono ?_); rintro r w4 ⟨s4, a4, m4, k4, e4, rfl, D4, g4⟩; clear q0 q1 q2; have G4 := G3.trans (g4.alloc (.cells #[.bool false, .slice a4 m4 k4, .int .i64 e4] 24)); have D4' := (DyV_abs D4.out).gr ((Gr.refl w4).alloc (.cells #[.bool false, .slice a4 m4 k4, .int .i64 e4] 24)); obtain ⟨q0, q1, q2⟩ := cells_of (G4.keepH HOr)) | (go_at_call 13; have CM := cmpG false false a2 a4 m2 m4 k2 k4 e2 e4 _ _ _ (DO.out.gr (hg.out.trans G4)) D4'; rw [hsg] at CM; (with_reducible refine CM.mono ?_); rintro r w5 ⟨rfl, g5⟩; clear q0 q1 q2))
          go_roundw
          case rel => exact ⟨2, by omega, rfl, hg.out.trans (G4.trans g5)⟩
          case measure => simp only [intOf]; omega
      · obtain ⟨zq, hzq, hzq2⟩ := (ZN false hfz).out wr
        go_wp2_with (first | (go_at_call 51; (with_reducible refine (I1.out _).mono ?_); rintro r w' ⟨rfl, rfl⟩) | (go_at_call 51; (with_reducible refine (I2.out _).mono ?_); rintro r w' ⟨rfl, rfl⟩) | (go_at_call 52; (with_reducible refine (NXf.out _).mono ?_); rintro r w' ⟨rfl, rfl⟩))
        go_roundw
        case rel => exact ⟨2, by omega, rfl, hg.out.drew⟩
        case measure => simp only [intOf]; omega
    · go_wp2
      go_ret
      exact ⟨rfl, GR⟩
end Go.Proofs.YtaiflkpanankcaaDoor.Fl

namespace Go.Proofs.YtaiflkpanankcaaDoor.Fl
open Go.RowKit
open Ieee
set_option linter.unusedVariables false

theorem odd_form : ∀ x : Nat, 0 < x → ∃ t q, x = 2 ^ t * (2 * q + 1) := by
  intro x
  induction x using Nat.strongRecOn with
  | ind x ih =>
    intro h
    by_cases h1 : x % 2 = 1
    · exact ⟨0, x / 2, by rw [Nat.pow_zero]; omega⟩
    · obtain ⟨t, q, e⟩ := ih (x / 2) (by omega) (by omega)
      exact ⟨t + 1, q, by rw [Nat.pow_succ, Nat.mul_comm (2 ^ t) 2, Nat.mul_assoc, ← e]; omega⟩
theorem odd_unique {t q t' q' : Nat} (h : 2 ^ t * (2 * q + 1) = 2 ^ t' * (2 * q' + 1)) : t = t' ∧ q = q' := by
  have key : ∀ (t q t' q' : Nat), 2 ^ t * (2 * q + 1) = 2 ^ t' * (2 * q' + 1) → t' ≤ t := by
    intro t q t' q' h
    refine Nat.le_of_not_lt fun hlt => ?_
    obtain ⟨d, rfl⟩ : ∃ d, t' = t + (d + 1) := ⟨t' - t - 1, by omega⟩
    rw [Nat.pow_add, Nat.mul_assoc] at h
    have h1 := Nat.eq_of_mul_eq_mul_left (Nat.two_pow_pos t) h
    rw [Nat.pow_succ, Nat.mul_comm (2 ^ d) 2, Nat.mul_assoc] at h1
    omega
  have e1 : t = t' := Nat.le_antisymm (key _ _ _ _ h.symm) (key _ _ _ _ h)
  subst e1
  have := Nat.eq_of_mul_eq_mul_left (Nat.two_pow_pos t) h
  exact ⟨rfl, by omega⟩
/-- no neighbour is nearer -/
theorem near_core (A t N : Nat) (hN : N ≤ 9007199254740992) (h : t = 0 ∨ 4503599627370496 ≤ N) (hR : Rnd A (2 ^ t * DD) N) (hlow : 0 < t → 4503599627370496 * (2 ^ t * DD) ≤ A) :
    (((A : Int) - ((M (t * 4503599627370496 + N) * DD : Nat) : Int)).natAbs < ((A : Int) - ((M (t * 4503599627370496 + N + 1) * DD : Nat) : Int)).natAbs ∨ (((A : Int) - ((M (t * 4503599627370496 + N) * DD : Nat) : Int)).natAbs = ((A : Int) - ((M (t * 4503599627370496 + N + 1) * DD : Nat) : Int)).natAbs ∧ (t * 4503599627370496 + N) % 2 = 0)) ∧
    (0 < t * 4503599627370496 + N → (((A : Int) - ((M (t * 4503599627370496 + N) * DD : Nat) : Int)).natAbs < ((A : Int) - ((M (t * 4503599627370496 + N - 1) * DD : Nat) : Int)).natAbs ∨ (((A : Int) - ((M (t * 4503599627370496 + N) * DD : Nat) : Int)).natAbs = ((A : Int) - ((M (t * 4503599627370496 + N - 1) * DD : Nat) : Int)).natAbs ∧ (t * 4503599627370496 + N) % 2 = 0))) := by
  obtain ⟨h1, h2, h3⟩ := rung_near t N hN h
  have hpar : (t * 4503599627370496 + N) % 2 = N % 2 := by omega
  have hG : 0 < 2 ^ t * DD := Nat.mul_pos (Nat.two_pow_pos t) DD_pos
  have eY : M (t * 4503599627370496 + N) * DD = N * (2 ^ t * DD) := by rw [h1, Nat.mul_assoc]
  have eU : N * (2 ^ t * DD) + 2 ^ t * DD ≤ M (t * 4503599627370496 + N + 1) * DD := by
    have := Nat.mul_le_mul_right DD h2
    rw [Nat.add_mul, Nat.mul_assoc] at this
    exact this
  obtain ⟨lo, hi, tlo, thi⟩ := hR
  rw [eY]
  refine ⟨?_, fun h0 => ?_⟩
  · obtain ⟨Uu, hUu⟩ : ∃ z, z = M (t * 4503599627370496 + N + 1) * DD := ⟨_, rfl⟩
    rw [← hUu] at eU ⊢
    clear eY h1 h2 h3 hUu hlow h
    generalize N * (2 ^ t * DD) = Y at *
    generalize 2 ^ t * DD = G at *
    by_cases hc : 2 * A = 2 * Y + G
    · by_cases hd : Uu = Y + G
      · exact Or.inr ⟨by omega, by rw [hpar]; exact thi hc⟩
      · exact Or.inl (by omega)
    · exact Or.inl (by omega)
  · rcases h3 h0 with h4 | ⟨t0, hNe, h4⟩
    · have eV : M (t * 4503599627370496 + N - 1) * DD + 2 ^ t * DD = N * (2 ^ t * DD) := by
        rw [← Nat.add_mul, h4, Nat.mul_assoc]
      obtain ⟨Vv, hVv⟩ : ∃ z, z = M (t * 4503599627370496 + N - 1) * DD := ⟨_, rfl⟩
      rw [← hVv] at eV ⊢
      clear eY h1 h2 h3 h4 hVv hlow h eU
      generalize N * (2 ^ t * DD) = Y at *
      generalize 2 ^ t * DD = G at *
      by_cases hc : 2 * Y = 2 * A + G
      · exact Or.inr ⟨by omega, by rw [hpar]; exact tlo hc⟩
      · exact Or.inl (by omega)
    · have eV : 2 * (M (t * 4503599627370496 + N - 1) * DD) + 2 ^ t * DD = 2 * (N * (2 ^ t * DD)) := by
        rw [← Nat.mul_assoc, ← Nat.add_mul, h4]; ac_rfl
      have hA := hlow t0
      rw [← hNe] at hA
      obtain ⟨Vv, hVv⟩ : ∃ z, z = M (t * 4503599627370496 + N - 1) * DD := ⟨_, rfl⟩
      rw [← hVv] at eV ⊢
      clear eY h1 h2 h3 h4 hVv hlow h eU tlo thi hpar h0 hN hNe
      generalize N * (2 ^ t * DD) = Y at *
      generalize 2 ^ t * DD = G at *
      exact Or.inl (by omega)
/-- Float, of nothing -/
theorem float22z (ad : Option Addr) (cap : Nat) (w : World) (dx : DyAt w false ad 0 cap 0 0) :
    Calls Tryd.prog 22 #[.agg #[.bool false, .slice ad 0 cap, .int .i64 0]] w fun r w' => r = .returned (.tuple #[.float .f64 0, .int .i64 0]) ∧ Gr w w' := by
  have R := dx.r26
  clear dx
  go_enter Tryd.func22, Tryd.ntmps22
  go_wp2_with (go_at_call 26; (with_reducible refine (R.out _ ((Gr.refl w).alloc _)).mono ?_); rintro r w1 ⟨rfl, g1⟩; have k1 : w1.cell? ⟨w.heap.size, 1, none⟩ = some (.slice ad 0 cap) := g1.keep (by simp); have G1 := ((Gr.refl w).alloc (.cells #[.bool false, .slice ad 0 cap, .int .i64 0] 24)).trans g1)
  refine bodyPost_ret (v := .tuple #[.float .f64 0, .int .i64 0]) (by simp [results, Tryd.results22, go_sem]) rfl ⟨rfl, G1⟩
/-- the bounds of a dyad of that worth -/
theorem dy_bounds {w : World} {s : Bool} {ad : Option Addr} {n cap q : Nat} {e V : Int} (hV : sv KK s (2 * q + 1) e = V) (hg : Gd 20000 42560 V) (he : -1048576 ≤ e) : -30000 ≤ e ∧ e ≤ 30000 ∧ bl (2 * q + 1) ≤ 60000 ∧ (bl (2 * q + 1) : Int) + e ≤ 30000 := by
  have hkk := KK_eq
  have hkn := KN_eq
  obtain ⟨m, rfl, hm⟩ := hg
  have ha := sv_abs KK s (2 * q + 1) e
  rw [hV, Int.natAbs_mul, Int.natAbs_natCast] at ha
  have hx0 : 0 < m.natAbs := Nat.pos_of_ne_zero fun h => by
    rw [h, Nat.zero_mul] at ha
    exact absurd ha.symm (Nat.ne_of_gt (Nat.mul_pos (by omega) (Nat.two_pow_pos _)))
  obtain ⟨u, v, hu⟩ := odd_form m.natAbs hx0
  rw [hu] at ha
  have hp : u + (KN - 20000) = (e + KK).toNat ∧ v = q := odd_unique (t := u + (KN - 20000)) (q := v) (t' := (e + KK).toNat) (q' := q) (by rw [Nat.pow_add, Nat.mul_comm (2 ^ (e + KK).toNat), ← ha]; exact Nat.mul_right_comm _ _ _)
  obtain ⟨h1, rfl⟩ := hp
  have hb : bl (2 * v + 1) + u ≤ 42560 := by
    have := bl_shift (n := 2 * v + 1) (k := u) (by omega)
    rw [← this, Nat.mul_comm, ← hu]
    exact bl_le_of_lt hm
  omega
end Go.Proofs.YtaiflkpanankcaaDoor.Fl

namespace Go.Proofs.YtaiflkpanankcaaDoor.Fl
open Go.RowKit
open Ieee
set_option linter.unusedVariables false

/-- the rung's distance is no greater than its neighbours' -/
structure NearR (A R : Nat) : Prop where
  up : ((A : Int) - ((M R * DD : Nat) : Int)).natAbs < ((A : Int) - ((M (R + 1) * DD : Nat) : Int)).natAbs ∨ (((A : Int) - ((M R * DD : Nat) : Int)).natAbs = ((A : Int) - ((M (R + 1) * DD : Nat) : Int)).natAbs ∧ R % 2 = 0)
  dn : 0 < R → ((A : Int) - ((M R * DD : Nat) : Int)).natAbs < ((A : Int) - ((M (R - 1) * DD : Nat) : Int)).natAbs ∨ (((A : Int) - ((M R * DD : Nat) : Int)).natAbs = ((A : Int) - ((M (R - 1) * DD : Nat) : Int)).natAbs ∧ R % 2 = 0)
theorem NearR.exact {r R : Nat} (h : NearR (M r * DD) R) : R = r := by
  have hD := DD_pos
  rcases Nat.lt_trichotomy R r with hl | hl | hl
  · exfalso
    have h1 : M R * DD < M (R + 1) * DD := Nat.mul_lt_mul_of_pos_right (M_lt_succ R) hD
    have h2 : M (R + 1) * DD ≤ M r * DD := Nat.mul_le_mul_right _ (M_le hl)
    have := h.up
    generalize M (R + 1) * DD = a at *
    generalize M R * DD = b at *
    generalize M r * DD = c at *
    omega
  · exact hl
  · exfalso
    have h0 : 0 < R := by omega
    have h1 : M (R - 1) * DD < M R * DD := by
      have := M_lt_succ (R - 1)
      rw [show R - 1 + 1 = R by omega] at this
      exact Nat.mul_lt_mul_of_pos_right this hD
    have h2 : M r * DD ≤ M (R - 1) * DD := Nat.mul_le_mul_right _ (M_le (by omega))
    have := h.dn h0
    generalize M (R - 1) * DD = a at *
    generalize M R * DD = b at *
    generalize M r * DD = c at *
    omega
theorem val_mul (s : Bool) (r : Nat) : val s r * (DD : Int) = if s then -((M r * DD : Nat) : Int) else ((M r * DD : Nat) : Int) := by
  unfold val
  cases s
  · simp only [Bool.false_eq_true, if_false, Int.natCast_mul]
  · simp only [if_true, Int.natCast_mul, Int.neg_mul]
def zS (s : Bool) (R : Nat) (up : Bool) : Bool := if R = 0 then !up else s
def zR (s : Bool) (R : Nat) (up : Bool) : Nat := if R = 0 then 1 else if s = up then R - 1 else R + 1
theorem z_ok (s : Bool) (R : Nat) (hR : R < 9218868437227405312) (up : Bool) : (if R = 0 then W (!up) 1 else if s = up then W s (R - 1) else W s (R + 1)) = W (zS s R up) (zR s R up) ∧ zR s R up ≤ 9218868437227405312 := by
  unfold zS zR
  by_cases h : R = 0
  · rw [if_pos h, if_pos h, if_pos h]; exact ⟨rfl, by omega⟩
  · rw [if_neg h, if_neg h, if_neg h]
    by_cases hs : s = up
    · rw [if_pos hs, if_pos hs]; exact ⟨rfl, by omega⟩
    · rw [if_neg hs, if_neg hs]; exact ⟨rfl, by omega⟩
theorem z_near (s : Bool) (A R : Nat) (V : Int) (hV : V = if s then -(A : Int) else (A : Int)) (h : NearR A R) (up : Bool) :
    (V - val s R * (DD : Int)).natAbs < (V - val (zS s R up) (zR s R up) * (DD : Int)).natAbs ∨ ((V - val s R * (DD : Int)).natAbs = (V - val (zS s R up) (zR s R up) * (DD : Int)).natAbs ∧ R % 2 = 0) := by
  have hD := DD_pos
  rw [val_mul, val_mul, hV]
  unfold zS zR
  by_cases h0 : R = 0
  · subst h0
    have h1 := h.up
    have h2 : 0 < M (0 + 1) * DD := Nat.mul_pos (M_pos (by omega)) hD
    have h3 : M 0 * DD = 0 := by rw [M_zero, Nat.zero_mul]
    simp only [if_true]
    rw [Nat.zero_add] at h1 h2
    generalize M 1 * DD = a at *
    generalize M 0 * DD = b at *
    subst h3
    rcases h1 with h1 | ⟨h1, _⟩ <;> cases s <;> cases up <;> simp only [Bool.not_true, Bool.not_false, Bool.false_eq_true, if_false, if_true] <;> first | (left; omega) | (right; exact ⟨by omega, by trivial⟩)
  · rw [if_neg h0, if_neg h0]
    have h1 := h.up
    have h2 := h.dn (by omega)
    by_cases hs : s = up
    · rw [if_pos hs]
      generalize M (R - 1) * DD = a at *
      generalize M R * DD = b at *
      generalize M (R + 1) * DD = c at *
      cases s <;> simp only [Bool.false_eq_true, if_false, if_true] <;> omega
    · rw [if_neg hs]
      generalize M (R - 1) * DD = a at *
      generalize M R * DD = b at *
      generalize M (R + 1) * DD = c at *
      cases s <;> simp only [Bool.false_eq_true, if_false, if_true] <;> omega
/-- WHAT Float TELLS of the right dyad of a worth -/
theorem floatG (s : Bool) (ad : Option Addr) (n cap : Nat) (e V : Int) (w : World) (hd : DyV w s ad n cap e V) (hg : Gd 20000 42560 V) :
    ∃ (A R : Nat), (V = if s then -(A : Int) else (A : Int)) ∧ NearR A R ∧
      ((R < 9218868437227405312 ∧ ∀ w1, Gr w w1 → Calls Tryd.prog 22 #[.agg #[.bool s, .slice ad n cap, .int .i64 e]] w1 fun r w' => r = .returned (.tuple #[.float .f64 (W s R), .int .i64 0]) ∧ Gr w1 w') ∨
        (9218868437227405312 ≤ R ∧ ∀ w1, Gr w w1 → Calls Tryd.prog 22 #[.agg #[.bool s, .slice ad n cap, .int .i64 e]] w1 fun r w' => r = .returned (.tuple #[.float .f64 0, .int .i64 6]) ∧ Gr w1 w')) := by
  obtain ⟨x, dx, hV⟩ := hd
  have hz : n = 0 ↔ x = 0 := by
    obtain ⟨xs, h1, h2⟩ := dx.lim
    rw [← h1.len]; exact h2.zero_iff (by omega)
  rcases dx.right with ⟨rfl, rfl, rfl⟩ | ⟨q, rfl, hlo, hhi⟩
  · obtain rfl := hz.2 rfl
    rw [sv_zero] at hV
    refine ⟨0, 0, by simp [← hV], ⟨?_, fun h => absurd h (by omega)⟩, Or.inl ⟨by omega, fun w1 g => float22z ad cap w1 (dx.gr g)⟩⟩
    have h2 : 0 < M (0 + 1) * DD := Nat.mul_pos (M_pos (by omega)) DD_pos
    have h3 : M 0 * DD = 0 := by rw [M_zero, Nat.zero_mul]
    generalize M (0 + 1) * DD = a at *
    generalize M 0 * DD = b at *
    exact Or.inl (by omega)
  · obtain ⟨m, rfl⟩ : ∃ m, n = m + 1 := ⟨n - 1, by omega⟩
    obtain ⟨b1, b2, b3, b4⟩ := dy_bounds (w := w) (ad := ad) (n := m) (cap := cap) hV hg hlo
    obtain ⟨t, N, hN, hN2, hR, hl, hF⟩ := float_spec s ad m cap q e w dx b1 b2 b3 b4
    have nc := near_core _ t N hN hN2 hR hl
    exact ⟨_, t * 4503599627370496 + N, hV.symm, ⟨nc.1, nc.2⟩, hF⟩
end Go.Proofs.YtaiflkpanankcaaDoor.Fl

namespace Go.Proofs.YtaiflkpanankcaaDoor.Fl
open Go.RowKit
open Ieee
set_option linter.unusedVariables false

theorem heap_own3 {w : World} {b : Nat} {a0 a1 a2 : Value} (h : w.heap[b]? = some (.cells #[a0, a1, a2] 24)) (v0 v1 v2 : Value) : (((w.setCell ⟨b, 0, none⟩ v0).setCell ⟨b, 1, none⟩ v1).setCell ⟨b, 2, none⟩ v2).heap[b]? = some (.cells #[v0, v1, v2] 24) := by
  simp only [World.setCell, Array.getElem?_modify, if_true, h, Option.map_some]
  rfl
theorem Gr_put {W w : World} (h : Gr W w) {b : Nat} (hb : W.heap.size ≤ b) (v0 v1 v2 : Value) : Gr W (((w.setCell ⟨b, 0, none⟩ v0).setCell ⟨b, 1, none⟩ v1).setCell ⟨b, 2, none⟩ v2) := ((h.setCell (p := ⟨b, 0, none⟩) hb _).setCell (p := ⟨b, 1, none⟩) hb _).setCell (p := ⟨b, 2, none⟩) hb _
theorem same23 (x y : Nat) (B : Bool) (w : World) (h : (((x : Int) == (y : Int)) || (nanB x && nanB y)) = B) :
    Calls Tryd.prog 23 #[.float .f64 x, .float .f64 y] w fun e w' => e = .returned (.bool B) ∧ w' = w := by
  have b1 := bits14
  unfold nanB at h
  cases h1 : ((x : Int) == (y : Int))
  · rw [h1, Bool.false_or] at h
    cases h2 : (FloatKind.f64.format.order x x != some .eq)
    · rw [h2, Bool.false_and] at h
      subst h
      go_enter Tryd.func23, Tryd.ntmps23
      go_wp2
      go_ret
      exact ⟨rfl, rfl⟩
    · rw [h2, Bool.true_and] at h
      go_enter Tryd.func23, Tryd.ntmps23
      go_wp2
      go_ret
      exact ⟨rfl, rfl⟩
  · rw [h1, Bool.true_or] at h
    subst h
    go_enter Tryd.func23, Tryd.ntmps23
    go_wp2
    go_ret
    exact ⟨rfl, rfl⟩
/-- too great: half way above the greatest float, or more -/
theorem over_ge {A R : Nat} (h : NearR A R) (hR : 9218868437227405312 ≤ R) : 18014398509481983 * 2 ^ ((970 : Int) + KK).toNat ≤ A := by
  have hkk := KK_eq
  have hD := DD_pos
  have r1 : R - 1 + 1 = R := by omega
  have r2 : 0 < R := by omega
  have r3 : 9218868437227405311 ≤ R - 1 := by omega
  obtain ⟨B, hB⟩ : ∃ B, B = 2044 := ⟨_, rfl⟩
  have ee : ((970 : Int) + KK).toNat = B + (KK - 1074).toNat := by omega
  have m1 : M 9218868437227405312 = 9007199254740992 * 2 ^ (B + 1) := by
    have := M_at (B + 1) 9007199254740992 (Or.inl ⟨by omega, by omega⟩)
    rw [show (B + 1) * 4503599627370496 + 9007199254740992 = 9218868437227405312 by omega] at this
    exact this
  have m2 : M 9218868437227405311 = 9007199254740991 * 2 ^ (B + 1) := by
    have := M_at (B + 1) 9007199254740991 (Or.inl ⟨by omega, by omega⟩)
    rw [show (B + 1) * 4503599627370496 + 9007199254740991 = 9218868437227405311 by omega] at this
    exact this
  have h1 := M_le hR
  have h2 : M 9218868437227405311 ≤ M (R - 1) := M_le r3
  rw [m1] at h1
  rw [m2] at h2
  have h3 := Nat.mul_le_mul_right DD h1
  have h4 := Nat.mul_le_mul_right DD h2
  have h5 := h.dn r2
  have h6 : M (R - 1) * DD < M R * DD := by
    have := M_lt_succ (R - 1)
    rw [r1] at this
    exact Nat.mul_lt_mul_of_pos_right this hD
  have e1 : 18014398509481983 * 2 ^ ((970 : Int) + KK).toNat = 18014398509481983 * (2 ^ B * DD) := by
    rw [DD_eq, ← Nat.pow_add, ee]
  rw [e1]
  rw [Nat.mul_assoc, Nat.pow_succ, Nat.mul_comm (2 ^ B) 2, Nat.mul_assoc 2] at h3 h4
  clear m1 m2 h1 h2 e1 h ee
  generalize M (R - 1) * DD = a at *
  generalize M R * DD = b at *
  generalize 2 ^ B * DD = c at *
  omega
end Go.Proofs.YtaiflkpanankcaaDoor.Fl

namespace Go.Proofs.YtaiflkpanankcaaDoor.Fl
open Go.RowKit
open Ieee
set_option linter.unusedVariables false

/-- what stands behind the first half of the statement -/
theorem dyV_zero {w : World} {s : Bool} {ad : Option Addr} {n cap : Nat} {e V : Int} (h : DyV w s ad n cap e V) (hV : V = 0) : s = false := by
  cases s
  · rfl
  · have := h.sign.1 rfl; omega
theorem dyV_sign {w : World} {s t : Bool} {ad : Option Addr} {n cap : Nat} {e V : Int} {A : Nat} (h : DyV w s ad n cap e V) (hV : V = if t then -(A : Int) else (A : Int)) (hA : 0 < A) : s = t := by
  have h1 := h.sign
  cases s <;> cases t <;> simp only [Bool.false_eq_true, if_false, if_true] at hV
  · rfl
  · have := h1.2.1 rfl; omega
  · have := h1.1 rfl; omega
  · rfl
/-- of any float there and back -/
theorem back (s : Bool) (r : Nat) (hr : r < 9218868437227405312) (s1 : Bool) (a1 : Option Addr) (m1 k1 : Nat) (e1 : Int) (w : World) (D : DyV w s1 a1 m1 k1 e1 (val s r * (DD : Int))) :
    ∀ w1, Gr w w1 → Calls Tryd.prog 22 #[.agg #[.bool s1, .slice a1 m1 k1, .int .i64 e1]] w1 fun q w' => q = .returned (.tuple #[.float .f64 (if r = 0 then 0 else W s r), .int .i64 0]) ∧ Gr w1 w' := by
  have hg : Gd 20000 42560 (val s r * (DD : Int)) := by
    rw [← sv_val]
    have hex : ex r ≤ 2046 := by unfold ex; omega
    exact gd_of (n := 53) (mant_lt r) (by omega) (by omega) (by omega)
  obtain ⟨A, R, hV, hn, hF⟩ := floatG s1 a1 m1 k1 e1 _ w D hg
  have hv := val_mul s r
  have hA : A = M r * DD := by
    have h1 : (val s r * (DD : Int)).natAbs = A := by rw [hV]; cases s1 <;> simp
    have h2 : (val s r * (DD : Int)).natAbs = M r * DD := by rw [hv]; cases s <;> simp [Int.natAbs_mul]
    omega
  subst hA
  obtain rfl := hn.exact
  rcases hF with ⟨_, hF⟩ | ⟨h, _⟩
  · by_cases h0 : R = 0
    · subst h0
      obtain rfl : s1 = false := dyV_zero D (by rw [val_zero, Int.zero_mul])
      exact hF
    · rw [if_neg h0]
      have hp : 0 < M R * DD := Nat.mul_pos (M_pos (by omega)) DD_pos
      obtain rfl : s1 = s := dyV_sign D hv hp
      exact hF
  · omega
end Go.Proofs.YtaiflkpanankcaaDoor.Fl

namespace Go.Proofs.YtaiflkpanankcaaDoor.Fl
open Go.RowKit
open Ieee
set_option linter.unusedVariables false

set_option maxRecDepth 100000 in
set_option maxHeartbeats 6400000 in
theorem floats6 (s : Bool) (ad : Option Addr) (n cap : Nat) (e : Int) (xs : List Nat) (x : Nat) (w : World) (r1 : Row w ad n cap xs) (h1 : ∀ x ∈ xs, x < 18446744073709551616) (hx : x < 18446744073709551616) (hT : TabAt 1 Lib.deBruijn64tab w) :
    Calls Tryd.prog 6 #[.agg #[.bool s, .slice ad n cap, .int .i64 e], .float .f64 x] w fun r w' => r = .returned (.bool true) ∧ Gr w w' := by
  obtain ⟨sx, rx, rfl, hrw⟩ := W_split x hx
  have AW : Hid (∀ w1, Gr w w1 → Calls Tryd.prog 7 #[] w1 fun r w' => r = .returned (.bool true) ∧ Gr w1 w') := fun w1 g => awake7 w1 (tab_gr hT g)
  have K1 : Hid (∀ w1, Gr w w1 → Calls Tryd.prog 8 #[.agg #[.bool s, .slice ad n cap, .int .i64 e]] w1 fun r w' => ∃ s ad n cap e V, r = .returned (.agg #[.bool s, .slice ad n cap, .int .i64 e]) ∧ Hid (DyV w' s ad n cap e V) ∧ Hid (Gd 20000 42560 V) ∧ Gr w1 w') := fun w1 g => by
    refine (known8 s ad n cap e xs w1 (r1.gr g) h1).mono ?_
    rintro r w' ⟨⟨s, ad, n, cap, e, V, h1, h2, h3⟩, h4⟩
    exact ⟨s, ad, n, cap, e, V, h1, h2, h3, h4⟩
  have HT : Hid (TabAt 1 Lib.deBruijn64tab w) := hT
  have HA : (w.alloc (.cells #[.bool s, .slice ad n cap, .int .i64 e] 24)).heap[w.heap.size]? = _ := first_block w (.cells #[.bool s, .slice ad n cap, .int .i64 e] 24)
  have GW : Gr w (w.alloc (.cells #[.bool s, .slice ad n cap, .int .i64 e] 24)) := (Gr.refl w).alloc _
  have tok : True := trivial
  by_cases hrx : rx < 9218868437227405312
  · have O1 : Hid (∀ w1, Gr w w1 → Calls Tryd.prog 21 #[.float .f64 (W sx rx)] w1 fun res w' => ∃ s' ad n cap e', res = .returned (.tuple #[.agg #[.bool s', .slice ad n cap, .int .i64 e'], .int .i64 0]) ∧ Hid (DyV w' s' ad n cap e' (val sx rx * (DD : Int))) ∧ Gr w1 w') := fun w1 g => ofG sx rx w1 hrx (tab_gr hT g)
    have SB : ∀ w1, (binOp .sub 41 (.float .f64 (W sx rx)) (.float .f64 (W sx rx))).run Tryd.prog w1 = .ok (.float .f64 0) w1 := fun w1 => sub_run w1 _ _ _ (sub_self sx rx hrx)
    have z00 : (FloatKind.f64.format.order 0 0 != some .eq) = false := by decide +kernel
    clear r1 h1 hT hx
    by_cases h0 : rx = 0
    · subst h0
      have x0 : (FloatKind.f64.format.order (W sx 0) 0 == some .eq) = true := by
        have := zeroB_W sx 0 (by omega)
        exact this
      have x1 : (FloatKind.f64.format.order (W sx 0) 0 != some .eq) = false := by rw [bne, x0]; rfl
      have SG : Hid (∀ w, Calls Tryd.prog 23 #[.float .f64 0, .float .f64 0] w fun e w' => e = .returned (.bool true) ∧ w' = w) := fun w => same23 0 0 true w (by kernel_rfl)
      have BK : ∀ (s1 : Bool) (a1 : Option Addr) (m1 k1 : Nat) (e1 : Int) (w0 : World), DyV w0 s1 a1 m1 k1 e1 (val sx 0 * (DD : Int)) → Calls Tryd.prog 22 #[.agg #[.bool s1, .slice a1 m1 k1, .int .i64 e1]] w0 fun q w' => q = .returned (.tuple #[.float .f64 0, .int .i64 0]) ∧ Gr w0 w' := fun s1 a1 m1 k1 e1 w0 D => back sx 0 hrx s1 a1 m1 k1 e1 w0 D w0 (Gr.refl _)
      cases sx
      · have SF : Hid (∀ w, Calls Tryd.prog 23 #[.float .f64 0, .float .f64 (W false 0)] w fun e w' => e = .returned (.bool true) ∧ w' = w) := fun w => same23 0 (W false 0) true w (by kernel_rfl)
        go_enter Tryd.func6, Tryd.ntmps6
        go_wp2_with (first | (go_at_call 7; (with_reducible refine (AW.out _ GW).mono ?_); rintro r w1 ⟨rfl, g1⟩; replace GW := GW.trans g1; replace HA := g1.keepH HA; clear g1) | (go_at_call 21; (with_reducible refine (O1.out _ GW).mono ?_); rintro r w2 ⟨s1, a1, m1, k1, e1, rfl, D1, g2⟩; replace GW := (GW.trans g2).alloc (.cells #[.bool s1, .slice a1 m1 k1, .int .i64 e1] 24); replace HA := ((Gr.refl w2).alloc (.cells #[.bool s1, .slice a1 m1 k1, .int .i64 e1] 24)).keepH (g2.keepH HA); have D1' := D1.out.gr ((Gr.refl w2).alloc (.cells #[.bool s1, .slice a1 m1 k1, .int .i64 e1] 24)); clear g2) | (go_at_call 22; have _t := tok; (with_reducible refine (BK s1 a1 m1 k1 e1 _ D1').mono ?_); rintro r w3 ⟨rfl, g3⟩; clear tok; replace GW := GW.trans g3; replace HA := g3.keepH HA; have ⟨q0, q1, q2⟩ := cells_of HA; clear g3 D1') | (go_at_call 23; (with_reducible refine (SF.out _).mono ?_); rintro r w' ⟨rfl, rfl⟩) | (go_at_call 23; (with_reducible refine (SG.out _).mono ?_); rintro r w' ⟨rfl, rfl⟩) | (go_at_call 8; (with_reducible refine (K1.out _ GW).mono ?_); rintro r w4 ⟨s4, a4, m4, k4, e4, V, rfl, D4, GV, g4⟩; clear q0 q1 q2; replace HA := g4.keepH HA; have ⟨t0, t1, t2⟩ := cells_of HA; have ⟨u0, u1, u2⟩ := open_of HA; have D5' := D4.out.set3 HA (.bool s4) (.slice a4 m4 k4) (.int .i64 e4); have HB5 := heap_own3 HA (.bool s4) (.slice a4 m4 k4) (.int .i64 e4); replace GW := Gr_put (GW.trans g4) (Nat.le_refl _) (.bool s4) (.slice a4 m4 k4) (.int .i64 e4); have ⟨q0, q1, q2⟩ := cells_of HB5))
        generalize hwS : ((w4.setCell ⟨w.heap.size, 0, none⟩ (.bool s4)).setCell ⟨w.heap.size, 1, none⟩ (.slice a4 m4 k4)).setCell ⟨w.heap.size, 2, none⟩ (.int .i64 e4) = w5 at *
        have D5 : DyV w5 s4 a4 m4 k4 e4 V := D5'
        obtain ⟨A, R, hV, hn, hF⟩ := floatG s4 a4 m4 k4 e4 V w5 D5 GV.out
        clear D5' hwS
        rcases hF with ⟨hR, hF⟩ | ⟨hR, hF⟩
        · refine (hF _ (Gr.refl _)).mono ?_
          rintro r w6 ⟨rfl, g6⟩
          have NE : Hid (Calls Tryd.prog 24 #[.agg #[.bool s4, .slice a4 m4 k4, .int .i64 e4], .float .f64 (W s4 R)] w6 fun r w' => r = .returned (.bool true) ∧ Gr w6 w') := near24 s4 a4 m4 k4 e4 V s4 R w6 (D5.gr g6) GV.out hR (tab_gr HT.out (GW.trans g6)) (zS s4 R) (zR s4 R) (z_ok s4 R hR) (fun up _ => z_near s4 A R V hV hn up)
          have ⟨j0, j1, j2⟩ := cells_of (g6.keepH HB5)
          clear q0 q1 q2
          go_wp2_with (go_at_call 24; (with_reducible refine NE.out.mono ?_); rintro r w7 ⟨rfl, g7⟩)
          go_ret
          exact ⟨rfl, (GW.trans g6).trans g7⟩
        · refine (hF _ (Gr.refl _)).mono ?_
          rintro r w6 ⟨rfl, g6⟩
          have ⟨j0, j1, j2⟩ := cells_of (g6.keepH HB5)
          clear q0 q1 q2
          have SM : Hid (∀ w1, Calls Tryd.prog 19 #[.bool false, .int .u64 18014398509481983, .int .i64 970] w1 fun r w' => ∃ ad cap, r = .returned (.agg #[.bool false, .slice ad 1 cap, .int .i64 970]) ∧ Hid (DyV w' false ad 1 cap 970 (sv KK false 18014398509481983 970)) ∧ Gr w1 w') := fun w1 => smallG false 18014398509481983 970 w1 9007199254740991 (by omega) (by omega) (by omega) (by omega)
          have hge : 0 ≤ sg ((V.natAbs : Int) - sv KK false 18014398509481983 970) := by
            have h1 := over_ge hn hR
            have h2 : V.natAbs = A := by rw [hV]; cases s4 <;> simp
            have h3 : sv KK false 18014398509481983 970 = ((18014398509481983 * 2 ^ ((970 : Int) + KK).toNat : Nat) : Int) := by unfold sv; simp only [Bool.false_eq_true, if_false]
            rw [h2, h3]
            generalize 18014398509481983 * 2 ^ ((970 : Int) + KK).toNat = T at *
            unfold sg
            rw [if_neg (by omega)]
            split <;> omega
          go_wp2
          have D6 := (DyV_abs (D5.gr g6)).gr ((Gr.refl w6).alloc (.cells #[.bool false, .slice a4 m4 k4, .int .i64 e4] 24))
          have CP : Hid (∀ a b w1, Gr (w6.alloc (.cells #[.bool false, .slice a4 m4 k4, .int .i64 e4] 24)) w1 → DyV w1 false a 1 b 970 (sv KK false 18014398509481983 970) → Calls Tryd.prog 13 #[.agg #[.bool false, .slice a4 m4 k4, .int .i64 e4], .agg #[.bool false, .slice a 1 b, .int .i64 970]] w1 fun r w' => r = .returned (.tuple #[.int .i64 (sg ((V.natAbs : Int) - sv KK false 18014398509481983 970)), .int .i64 0]) ∧ Gr w1 w') := fun a b w1 g h => cmpG false false a4 a m4 1 k4 b e4 970 _ _ w1 (D6.gr g) h
          generalize sg ((V.natAbs : Int) - sv KK false 18014398509481983 970) = OUT at *
          generalize sv KK false 18014398509481983 970 = SV at *
          have GB := (GW.trans g6).alloc (.cells #[.bool false, .slice a4 m4 k4, .int .i64 e4] 24)
          have HB6 := first_block w6 (.cells #[.bool false, .slice a4 m4 k4, .int .i64 e4] 24)
          generalize w6.alloc (.cells #[.bool false, .slice a4 m4 k4, .int .i64 e4] 24) = w7 at *
          generalize w6.heap.size = p9 at *
          have cs := cells_of HB6
          have hS0 : (w7.drew.cell? ⟨p9, 0, none⟩ = some (.bool false) ∧ w7.drew.cell? ⟨p9, 1, none⟩ = some (.slice a4 m4 k4) ∧ w7.drew.cell? ⟨p9, 2, none⟩ = some (.int .i64 e4)) ∧ Gr w7 w7.drew := ⟨cs, (Gr.refl w7).drew⟩
          clear cs HB6 j0 j1 j2 HB5 D6 g6 D5
          go_region_held3 (fun w' => (w'.cell? ⟨p9, 0, none⟩ = some (.bool false) ∧ w'.cell? ⟨p9, 1, none⟩ = some (.slice a4 m4 k4) ∧ w'.cell? ⟨p9, 2, none⟩ = some (.int .i64 e4)) ∧ Gr w7 w') (first | (with_reducible assumption) | (apply keep4; (with_reducible assumption); (with_reducible assumption))) (first | (go_at_call 19; (with_reducible refine (SM.out _).mono ?_); rintro r w8 ⟨a8, k8, rfl, D8, g8⟩) | (go_at_call 13; (with_reducible refine (CP.out a8 k8 _ ?gg D8.out).mono ?_); (case gg => exact And.right ‹_ ∧ Gr w7 _›); rintro r w9 ⟨rfl, g9⟩))
          go_wp2
          go_ret
          exact ⟨rfl, GB.trans (((Gr.refl w7).drew.trans g8).trans g9)⟩
      · have SF : Hid (∀ w, Calls Tryd.prog 23 #[.float .f64 0, .float .f64 (W true 0)] w fun e w' => e = .returned (.bool false) ∧ w' = w) := fun w => same23 0 (W true 0) false w (by kernel_rfl)
        go_enter Tryd.func6, Tryd.ntmps6
        go_wp2_with (first | (go_at_call 7; (with_reducible refine (AW.out _ GW).mono ?_); rintro r w1 ⟨rfl, g1⟩; replace GW := GW.trans g1; replace HA := g1.keepH HA; clear g1) | (go_at_call 21; (with_reducible refine (O1.out _ GW).mono ?_); rintro r w2 ⟨s1, a1, m1, k1, e1, rfl, D1, g2⟩; replace GW := (GW.trans g2).alloc (.cells #[.bool s1, .slice a1 m1 k1, .int .i64 e1] 24); replace HA := ((Gr.refl w2).alloc (.cells #[.bool s1, .slice a1 m1 k1, .int .i64 e1] 24)).keepH (g2.keepH HA); have D1' := D1.out.gr ((Gr.refl w2).alloc (.cells #[.bool s1, .slice a1 m1 k1, .int .i64 e1] 24)); clear g2) | (go_at_call 22; have _t := tok; (with_reducible refine (BK s1 a1 m1 k1 e1 _ D1').mono ?_); rintro r w3 ⟨rfl, g3⟩; clear tok; replace GW := GW.trans g3; replace HA := g3.keepH HA; have ⟨q0, q1, q2⟩ := cells_of HA; clear g3 D1') | (go_at_call 23; (with_reducible refine (SF.out _).mono ?_); rintro r w' ⟨rfl, rfl⟩) | (go_at_call 23; (with_reducible refine (SG.out _).mono ?_); rintro r w' ⟨rfl, rfl⟩) | (go_at_call 8; (with_reducible refine (K1.out _ GW).mono ?_); rintro r w4 ⟨s4, a4, m4, k4, e4, V, rfl, D4, GV, g4⟩; clear q0 q1 q2; replace HA := g4.keepH HA; have ⟨t0, t1, t2⟩ := cells_of HA; have ⟨u0, u1, u2⟩ := open_of HA; have D5' := D4.out.set3 HA (.bool s4) (.slice a4 m4 k4) (.int .i64 e4); have HB5 := heap_own3 HA (.bool s4) (.slice a4 m4 k4) (.int .i64 e4); replace GW := Gr_put (GW.trans g4) (Nat.le_refl _) (.bool s4) (.slice a4 m4 k4) (.int .i64 e4); have ⟨q0, q1, q2⟩ := cells_of HB5))
        generalize hwS : ((w4.setCell ⟨w.heap.size, 0, none⟩ (.bool s4)).setCell ⟨w.heap.size, 1, none⟩ (.slice a4 m4 k4)).setCell ⟨w.heap.size, 2, none⟩ (.int .i64 e4) = w5 at *
        have D5 : DyV w5 s4 a4 m4 k4 e4 V := D5'
        obtain ⟨A, R, hV, hn, hF⟩ := floatG s4 a4 m4 k4 e4 V w5 D5 GV.out
        clear D5' hwS
        rcases hF with ⟨hR, hF⟩ | ⟨hR, hF⟩
        · refine (hF _ (Gr.refl _)).mono ?_
          rintro r w6 ⟨rfl, g6⟩
          have NE : Hid (Calls Tryd.prog 24 #[.agg #[.bool s4, .slice a4 m4 k4, .int .i64 e4], .float .f64 (W s4 R)] w6 fun r w' => r = .returned (.bool true) ∧ Gr w6 w') := near24 s4 a4 m4 k4 e4 V s4 R w6 (D5.gr g6) GV.out hR (tab_gr HT.out (GW.trans g6)) (zS s4 R) (zR s4 R) (z_ok s4 R hR) (fun up _ => z_near s4 A R V hV hn up)
          have ⟨j0, j1, j2⟩ := cells_of (g6.keepH HB5)
          clear q0 q1 q2
          go_wp2_with (go_at_call 24; (with_reducible refine NE.out.mono ?_); rintro r w7 ⟨rfl, g7⟩)
          go_ret
          exact ⟨rfl, (GW.trans g6).trans g7⟩
        · refine (hF _ (Gr.refl _)).mono ?_
          rintro r w6 ⟨rfl, g6⟩
          have ⟨j0, j1, j2⟩ := cells_of (g6.keepH HB5)
          clear q0 q1 q2
          have SM : Hid (∀ w1, Calls Tryd.prog 19 #[.bool false, .int .u64 18014398509481983, .int .i64 970] w1 fun r w' => ∃ ad cap, r = .returned (.agg #[.bool false, .slice ad 1 cap, .int .i64 970]) ∧ Hid (DyV w' false ad 1 cap 970 (sv KK false 18014398509481983 970)) ∧ Gr w1 w') := fun w1 => smallG false 18014398509481983 970 w1 9007199254740991 (by omega) (by omega) (by omega) (by omega)
          have hge : 0 ≤ sg ((V.natAbs : Int) - sv KK false 18014398509481983 970) := by
            have h1 := over_ge hn hR
            have h2 : V.natAbs = A := by rw [hV]; cases s4 <;> simp
            have h3 : sv KK false 18014398509481983 970 = ((18014398509481983 * 2 ^ ((970 : Int) + KK).toNat : Nat) : Int) := by unfold sv; simp only [Bool.false_eq_true, if_false]
            rw [h2, h3]
            generalize 18014398509481983 * 2 ^ ((970 : Int) + KK).toNat = T at *
            unfold sg
            rw [if_neg (by omega)]
            split <;> omega
          go_wp2
          have D6 := (DyV_abs (D5.gr g6)).gr ((Gr.refl w6).alloc (.cells #[.bool false, .slice a4 m4 k4, .int .i64 e4] 24))
          have CP : Hid (∀ a b w1, Gr (w6.alloc (.cells #[.bool false, .slice a4 m4 k4, .int .i64 e4] 24)) w1 → DyV w1 false a 1 b 970 (sv KK false 18014398509481983 970) → Calls Tryd.prog 13 #[.agg #[.bool false, .slice a4 m4 k4, .int .i64 e4], .agg #[.bool false, .slice a 1 b, .int .i64 970]] w1 fun r w' => r = .returned (.tuple #[.int .i64 (sg ((V.natAbs : Int) - sv KK false 18014398509481983 970)), .int .i64 0]) ∧ Gr w1 w') := fun a b w1 g h => cmpG false false a4 a m4 1 k4 b e4 970 _ _ w1 (D6.gr g) h
          generalize sg ((V.natAbs : Int) - sv KK false 18014398509481983 970) = OUT at *
          generalize sv KK false 18014398509481983 970 = SV at *
          have GB := (GW.trans g6).alloc (.cells #[.bool false, .slice a4 m4 k4, .int .i64 e4] 24)
          have HB6 := first_block w6 (.cells #[.bool false, .slice a4 m4 k4, .int .i64 e4] 24)
          generalize w6.alloc (.cells #[.bool false, .slice a4 m4 k4, .int .i64 e4] 24) = w7 at *
          generalize w6.heap.size = p9 at *
          have cs := cells_of HB6
          have hS0 : (w7.drew.cell? ⟨p9, 0, none⟩ = some (.bool false) ∧ w7.drew.cell? ⟨p9, 1, none⟩ = some (.slice a4 m4 k4) ∧ w7.drew.cell? ⟨p9, 2, none⟩ = some (.int .i64 e4)) ∧ Gr w7 w7.drew := ⟨cs, (Gr.refl w7).drew⟩
          clear cs HB6 j0 j1 j2 HB5 D6 g6 D5
          go_region_held3 (fun w' => (w'.cell? ⟨p9, 0, none⟩ = some (.bool false) ∧ w'.cell? ⟨p9, 1, none⟩ = some (.slice a4 m4 k4) ∧ w'.cell? ⟨p9, 2, none⟩ = some (.int .i64 e4)) ∧ Gr w7 w') (first | (with_reducible assumption) | (apply keep4; (with_reducible assumption); (with_reducible assumption))) (first | (go_at_call 19; (with_reducible refine (SM.out _).mono ?_); rintro r w8 ⟨a8, k8, rfl, D8, g8⟩) | (go_at_call 13; (with_reducible refine (CP.out a8 k8 _ ?gg D8.out).mono ?_); (case gg => exact And.right ‹_ ∧ Gr w7 _›); rintro r w9 ⟨rfl, g9⟩))
          go_wp2
          go_ret
          exact ⟨rfl, GB.trans (((Gr.refl w7).drew.trans g8).trans g9)⟩
    · have x0 : (FloatKind.f64.format.order (W sx rx) 0 == some .eq) = false := by
        have := zeroB_W sx rx (by omega)
        rw [decide_eq_false h0] at this
        exact this
      have x1 : (FloatKind.f64.format.order (W sx rx) 0 != some .eq) = true := by rw [bne, x0]; rfl
      have SF : Hid (∀ w, Calls Tryd.prog 23 #[.float .f64 (W sx rx), .float .f64 (W sx rx)] w fun e w' => e = .returned (.bool true) ∧ w' = w) := fun w => same23 _ _ true w (by simp)
      have SG := SF
      have BK : ∀ (s1 : Bool) (a1 : Option Addr) (m1 k1 : Nat) (e1 : Int) (w0 : World), DyV w0 s1 a1 m1 k1 e1 (val sx rx * (DD : Int)) → Calls Tryd.prog 22 #[.agg #[.bool s1, .slice a1 m1 k1, .int .i64 e1]] w0 fun q w' => q = .returned (.tuple #[.float .f64 (W sx rx), .int .i64 0]) ∧ Gr w0 w' := fun s1 a1 m1 k1 e1 w0 D => by
        have := back sx rx hrx s1 a1 m1 k1 e1 w0 D w0 (Gr.refl _)
        rw [if_neg h0] at this
        exact this
      go_enter Tryd.func6, Tryd.ntmps6
      go_wp2_with (first | (go_at_call 7; (with_reducible refine (AW.out _ GW).mono ?_); rintro r w1 ⟨rfl, g1⟩; replace GW := GW.trans g1; replace HA := g1.keepH HA; clear g1) | (go_at_call 21; (with_reducible refine (O1.out _ GW).mono ?_); rintro r w2 ⟨s1, a1, m1, k1, e1, rfl, D1, g2⟩; replace GW := (GW.trans g2).alloc (.cells #[.bool s1, .slice a1 m1 k1, .int .i64 e1] 24); replace HA := ((Gr.refl w2).alloc (.cells #[.bool s1, .slice a1 m1 k1, .int .i64 e1] 24)).keepH (g2.keepH HA); have D1' := D1.out.gr ((Gr.refl w2).alloc (.cells #[.bool s1, .slice a1 m1 k1, .int .i64 e1] 24)); clear g2) | (go_at_call 22; have _t := tok; (with_reducible refine (BK s1 a1 m1 k1 e1 _ D1').mono ?_); rintro r w3 ⟨rfl, g3⟩; clear tok; replace GW := GW.trans g3; replace HA := g3.keepH HA; have ⟨q0, q1, q2⟩ := cells_of HA; clear g3 D1') | (go_at_call 23; (with_reducible refine (SF.out _).mono ?_); rintro r w' ⟨rfl, rfl⟩) | (go_at_call 23; (with_reducible refine (SG.out _).mono ?_); rintro r w' ⟨rfl, rfl⟩) | (go_at_call 8; (with_reducible refine (K1.out _ GW).mono ?_); rintro r w4 ⟨s4, a4, m4, k4, e4, V, rfl, D4, GV, g4⟩; clear q0 q1 q2; replace HA := g4.keepH HA; have ⟨t0, t1, t2⟩ := cells_of HA; have ⟨u0, u1, u2⟩ := open_of HA; have D5' := D4.out.set3 HA (.bool s4) (.slice a4 m4 k4) (.int .i64 e4); have HB5 := heap_own3 HA (.bool s4) (.slice a4 m4 k4) (.int .i64 e4); replace GW := Gr_put (GW.trans g4) (Nat.le_refl _) (.bool s4) (.slice a4 m4 k4) (.int .i64 e4); have ⟨q0, q1, q2⟩ := cells_of HB5))
      generalize hwS : ((w4.setCell ⟨w.heap.size, 0, none⟩ (.bool s4)).setCell ⟨w.heap.size, 1, none⟩ (.slice a4 m4 k4)).setCell ⟨w.heap.size, 2, none⟩ (.int .i64 e4) = w5 at *
      have D5 : DyV w5 s4 a4 m4 k4 e4 V := D5'
      obtain ⟨A, R, hV, hn, hF⟩ := floatG s4 a4 m4 k4 e4 V w5 D5 GV.out
      clear D5' hwS
      rcases hF with ⟨hR, hF⟩ | ⟨hR, hF⟩
      · refine (hF _ (Gr.refl _)).mono ?_
        rintro r w6 ⟨rfl, g6⟩
        have NE : Hid (Calls Tryd.prog 24 #[.agg #[.bool s4, .slice a4 m4 k4, .int .i64 e4], .float .f64 (W s4 R)] w6 fun r w' => r = .returned (.bool true) ∧ Gr w6 w') := near24 s4 a4 m4 k4 e4 V s4 R w6 (D5.gr g6) GV.out hR (tab_gr HT.out (GW.trans g6)) (zS s4 R) (zR s4 R) (z_ok s4 R hR) (fun up _ => z_near s4 A R V hV hn up)
        have ⟨j0, j1, j2⟩ := cells_of (g6.keepH HB5)
        clear q0 q1 q2
        go_wp2_with (go_at_call 24; (with_reducible refine NE.out.mono ?_); rintro r w7 ⟨rfl, g7⟩)
        go_ret
        exact ⟨rfl, (GW.trans g6).trans g7⟩
      · refine (hF _ (Gr.refl _)).mono ?_
        rintro r w6 ⟨rfl, g6⟩
        have ⟨j0, j1, j2⟩ := cells_of (g6.keepH HB5)
        clear q0 q1 q2
        have SM : Hid (∀ w1, Calls Tryd.prog 19 #[.bool false, .int .u64 18014398509481983, .int .i64 970] w1 fun r w' => ∃ ad cap, r = .returned (.agg #[.bool false, .slice ad 1 cap, .int .i64 970]) ∧ Hid (DyV w' false ad 1 cap 970 (sv KK false 18014398509481983 970)) ∧ Gr w1 w') := fun w1 => smallG false 18014398509481983 970 w1 9007199254740991 (by omega) (by omega) (by omega) (by omega)
        have hge : 0 ≤ sg ((V.natAbs : Int) - sv KK false 18014398509481983 970) := by
          have h1 := over_ge hn hR
          have h2 : V.natAbs = A := by rw [hV]; cases s4 <;> simp
          have h3 : sv KK false 18014398509481983 970 = ((18014398509481983 * 2 ^ ((970 : Int) + KK).toNat : Nat) : Int) := by unfold sv; simp only [Bool.false_eq_true, if_false]
          rw [h2, h3]
          generalize 18014398509481983 * 2 ^ ((970 : Int) + KK).toNat = T at *
          unfold sg
          rw [if_neg (by omega)]
          split <;> omega
        go_wp2
        have D6 := (DyV_abs (D5.gr g6)).gr ((Gr.refl w6).alloc (.cells #[.bool false, .slice a4 m4 k4, .int .i64 e4] 24))
        have CP : Hid (∀ a b w1, Gr (w6.alloc (.cells #[.bool false, .slice a4 m4 k4, .int .i64 e4] 24)) w1 → DyV w1 false a 1 b 970 (sv KK false 18014398509481983 970) → Calls Tryd.prog 13 #[.agg #[.bool false, .slice a4 m4 k4, .int .i64 e4], .agg #[.bool false, .slice a 1 b, .int .i64 970]] w1 fun r w' => r = .returned (.tuple #[.int .i64 (sg ((V.natAbs : Int) - sv KK false 18014398509481983 970)), .int .i64 0]) ∧ Gr w1 w') := fun a b w1 g h => cmpG false false a4 a m4 1 k4 b e4 970 _ _ w1 (D6.gr g) h
        generalize sg ((V.natAbs : Int) - sv KK false 18014398509481983 970) = OUT at *
        generalize sv KK false 18014398509481983 970 = SV at *
        have GB := (GW.trans g6).alloc (.cells #[.bool false, .slice a4 m4 k4, .int .i64 e4] 24)
        have HB6 := first_block w6 (.cells #[.bool false, .slice a4 m4 k4, .int .i64 e4] 24)
        generalize w6.alloc (.cells #[.bool false, .slice a4 m4 k4, .int .i64 e4] 24) = w7 at *
        generalize w6.heap.size = p9 at *
        have cs := cells_of HB6
        have hS0 : (w7.drew.cell? ⟨p9, 0, none⟩ = some (.bool false) ∧ w7.drew.cell? ⟨p9, 1, none⟩ = some (.slice a4 m4 k4) ∧ w7.drew.cell? ⟨p9, 2, none⟩ = some (.int .i64 e4)) ∧ Gr w7 w7.drew := ⟨cs, (Gr.refl w7).drew⟩
        clear cs HB6 j0 j1 j2 HB5 D6 g6 D5
        go_region_held3 (fun w' => (w'.cell? ⟨p9, 0, none⟩ = some (.bool false) ∧ w'.cell? ⟨p9, 1, none⟩ = some (.slice a4 m4 k4) ∧ w'.cell? ⟨p9, 2, none⟩ = some (.int .i64 e4)) ∧ Gr w7 w') (first | (with_reducible assumption) | (apply keep4; (with_reducible assumption); (with_reducible assumption))) (first | (go_at_call 19; (with_reducible refine (SM.out _).mono ?_); rintro r w8 ⟨a8, k8, rfl, D8, g8⟩) | (go_at_call 13; (with_reducible refine (CP.out a8 k8 _ ?gg D8.out).mono ?_); (case gg => exact And.right ‹_ ∧ Gr w7 _›); rintro r w9 ⟨rfl, g9⟩))
        go_wp2
        go_ret
        exact ⟨rfl, GB.trans (((Gr.refl w7).drew.trans g8).trans g9)⟩
  · have O1 : Hid (∀ w1, Gr w w1 → Calls Tryd.prog 21 #[.float .f64 (W sx rx)] w1 fun r w' => r = .returned (.tuple #[.agg #[.bool false, .slice none 0 0, .int .i64 0], .int .i64 5]) ∧ Gr w1 w') := fun w1 g => of4n _ w1 (by
      rw [nanB_W sx rx hrw, abs_W sx rx hrw]
      by_cases hn : 9218868437227405312 < rx
      · rw [decide_eq_true hn]; rfl
      · obtain rfl : rx = 9218868437227405312 := by omega
        have := pinfB_W false 9218868437227405312 (by omega)
        rw [show W false 9218868437227405312 = 9218868437227405312 from rfl] at this
        rw [this]; rfl)
    have h0 : double.sub (W sx rx) (W sx rx) = none := by
      by_cases hn : 9218868437227405312 < rx
      · exact sub_nan sx rx _ hrw hn
      · obtain rfl : rx = 9218868437227405312 := by omega
        exact sub_inf sx
    have SN : Hid (∀ w1, ∃ y, (binOp .sub 41 (.float .f64 (W sx rx)) (.float .f64 (W sx rx))).run Tryd.prog w1 = .ok (.float .f64 y) w1.drew ∧ (FloatKind.f64.format.order y 0 != some .eq) = true) := fun w1 => by
      obtain ⟨y, h2, h3⟩ := run_float_nan .sub (by simp) 41 (W sx rx) (W sx rx) w1 h0
      exact ⟨y, h2, by rw [bne, nan_order y 0 h3]; rfl⟩
    clear r1 h1 hT hx h0
    generalize W sx rx = x at *
    go_enter Tryd.func6, Tryd.ntmps6
    go_wp2_with (first | (go_at_call 7; (with_reducible refine (AW.out _ GW).mono ?_); rintro r w1 ⟨rfl, g1⟩; replace GW := GW.trans g1; clear g1) | (go_at_call 21; (with_reducible refine (O1.out _ GW).mono ?_); rintro r w2 ⟨rfl, g2⟩; replace GW := (GW.trans g2).alloc (.cells #[.bool false, .slice none 0 0, .int .i64 0] 24); obtain ⟨y, hy1, hy2⟩ := SN.out (w2.alloc (.cells #[.bool false, .slice none 0 0, .int .i64 0] 24)); have ⟨c0, c1, c2⟩ := cells_of (show (w2.alloc (.cells #[.bool false, .slice none 0 0, .int .i64 0] 24)).drew.heap[w2.heap.size]? = _ from first_block w2 (.cells #[.bool false, .slice none 0 0, .int .i64 0] 24))))
    go_ret
    exact ⟨rfl, GW.drew⟩
end Go.Proofs.YtaiflkpanankcaaDoor.Fl
