import Derived.Test.YtcgbdpgfpickaaaK31
namespace Go.Proofs.Ytcgbdpgfpickaaa.Fl
open Go.RowKit
open Ieee
set_option linter.unusedVariables false

theorem mant_zero' {a : Nat} (h : a = 0) : mant a = 0 := by subst h; rfl
theorem rtimesW (x y : Nat) (s t u : Bool) (E F G : Int) (X Y Z : Nat) (P : Nat → Prop) (w : World)
    (hsa : ∀ w, (binOp .sub 22 (.float .f64 x) (.float .f64 x)).run Try.prog w = .ok (.float .f64 0) w) (hsb : ∀ w, (binOp .sub 22 (.float .f64 y) (.float .f64 y)).run Try.prog w = .ok (.float .f64 0) w)
    (FA : Hid (∀ w, Calls Try.prog 44 #[.float .f64 x] w fun res w' => ∃ ad n cap, res = .returned (.agg #[.bool s, .slice ad n cap, .int .i64 E]) ∧ Lim w' ad n cap 18446744073709551616 X ∧ Gr w w'))
    (FB : Hid (∀ w, Calls Try.prog 44 #[.float .f64 y] w fun res w' => ∃ ad n cap, res = .returned (.agg #[.bool t, .slice ad n cap, .int .i64 F]) ∧ Lim w' ad n cap 18446744073709551616 Y ∧ Gr w w'))
    (TM : Hid (∀ (w : World) ad n cap ad' n' cap', Lim w ad n cap 18446744073709551616 X → Lim w ad' n' cap' 18446744073709551616 Y → Calls Try.prog 45 #[.agg #[.bool s, .slice ad n cap, .int .i64 E], .agg #[.bool t, .slice ad' n' cap', .int .i64 F]] w fun r w' => ∃ ad n cap, r = .returned (.agg #[.bool u, .slice ad n cap, .int .i64 G]) ∧ Lim w' ad n cap 18446744073709551616 Z ∧ Gr w w'))
    (UPC : Hid (∀ (w : World) ad n cap, Lim w ad n cap 18446744073709551616 Z → Calls Try.prog 42 #[.agg #[.bool u, .slice ad n cap, .int .i64 G]] w fun e w' => (∃ r, P r ∧ e = .returned (.float .f64 r)) ∧ Gr w w')) :
    Calls Try.prog 29 #[.float .f64 x, .float .f64 y] w fun e w' => (∃ r, P r ∧ e = .returned (.float .f64 r)) ∧ Gr w w' := by
  have hz : (FloatKind.f64.format.order 0 0 != some .eq) = false := by decide +kernel
  have tok : True := trivial
  go_enter Try.func29, Try.ntmps29
  go_wp2_with (first | (go_at_call 44; have _t := tok; (with_reducible refine (FA.out _).mono ?_); rintro r w1 ⟨a1, n1, c1, rfl, l1, g1⟩; clear tok) | (go_at_call 44; (with_reducible refine (FB.out _).mono ?_); rintro r w2 ⟨a2, n2, c2, rfl, l2, g2⟩; have l1' := l1.gr g2; have G2 := g1.trans g2) | (go_at_call 45; (with_reducible refine (TM.out _ _ _ _ _ _ _ l1' l2).mono ?_); rintro r w3 ⟨a3, n3, c3, rfl, l3, g3⟩; have G3 := G2.trans g3) | (go_at_call 42; (with_reducible refine (UPC.out _ _ _ _ l3).mono ?_); rintro r w4 ⟨⟨r4, h4, rfl⟩, g4⟩))
  go_ret
  exact ⟨⟨r4, h4, rfl⟩, G3.trans g4⟩
theorem bl_mant (a : Nat) : bl (mant a) ≤ 53 := bl_le_of_lt (Nat.lt_of_lt_of_le (mant_lt a) (by decide))
theorem rtimes (s t : Bool) (a b : Nat) (w : World) (ha : a < 9218868437227405312) (hb : b < 9218868437227405312) (hs : s = true → a = 0) (ht : t = true → b = 0) :
    Calls Try.prog 29 #[.float .f64 (W s a), .float .f64 (W t b)] w fun e w' => (∃ r, DirUp (M a * M b) U r ∧ e = .returned (.float .f64 r)) ∧ Gr w w' := by
  have hea : ex a ≤ 2046 := by unfold ex; omega
  have heb : ex b ≤ 2046 := by unfold ex; omega
  have hma := bl_mant a
  have hmb := bl_mant b
  have hbl : bl (mant a * mant b) ≤ 106 := bl_le_of_lt (by
    have := Nat.mul_lt_mul'' (mant_lt a) (mant_lt b)
    exact Nat.lt_of_lt_of_le this (by decide))
  have e1 : mant a * mant b * 2 ^ (ex a + ex b) = M a * M b := by
    unfold M
    rw [Nat.pow_add]
    simp only [Nat.mul_assoc, Nat.mul_left_comm]
  refine rtimesW (W s a) (W t b) s t (s != t) ((ex a : Int) - 1074) ((ex b : Int) - 1074) ((ex a : Int) - 1074 + ((ex b : Int) - 1074)) (mant a) (mant b) (mant a * mant b) (fun r => DirUp (M a * M b) U r) w (fun w => sub_run w _ _ _ (sub_self s a ha)) (fun w => sub_run w _ _ _ (sub_self t b hb)) (fun w => float41 s a w ha) (fun w => float41 t b w hb)
    (fun w ad n cap ad' n' cap' h1 h2 => times43 s t ad ad' n n' cap cap' (mant a) (mant b) _ _ w h1 h2 (by omega) (by omega) (by omega) (by omega) (by omega) (by omega)) (fun w ad n cap h => ?_)
  obtain ⟨r, h1, h2⟩ := upR (s != t) ad n cap (mant a * mant b) (ex a + ex b) ((ex a : Int) - 1074 + ((ex b : Int) - 1074)) w h (fun hst => by
    cases s
    · cases t
      · cases hst
      · rw [ht rfl]; rfl
    · rw [hs rfl]
      show 0 * _ = 0
      rw [Nat.zero_mul]) (by omega) (by omega) (by omega) (by omega)
  refine (h2 w (Gr.refl _)).mono ?_
  rintro e w' ⟨rfl, g⟩
  exact ⟨⟨r, e1 ▸ h1, rfl⟩, g⟩
theorem dirUp_scale {N D c r : Nat} (hc : 0 < c) (h : DirUp (N * c) (D * c) r) : DirUp N D r := by
  obtain ⟨h1, h2, h3⟩ := h
  refine ⟨h1, fun hr => ?_, fun hr => ?_⟩
  · have := h2 hr
    rw [← Nat.mul_assoc] at this
    exact Nat.le_of_mul_le_mul_right this hc
  · have := h3 hr
    rw [← Nat.mul_assoc] at this
    exact Nat.lt_of_mul_lt_mul_right this
theorem rplusI (b : Nat) (w : World) :
    Calls Try.prog 28 #[.float .f64 9218868437227405312, .float .f64 b] w fun e w' => e = .returned (.float .f64 9218868437227405312) ∧ Gr w w' := by
  obtain ⟨y, h1, h2⟩ := run_float_nan .sub (by simp) 22 (W false 9218868437227405312) (W false 9218868437227405312) w (sub_inf false)
  have h1' : (binOp .sub 22 (.float .f64 9218868437227405312) (.float .f64 9218868437227405312)).run Try.prog w = .ok (.float .f64 y) w.drew := h1
  have h3 : (FloatKind.f64.format.order y 0 != some .eq) = true := by rw [bne, nan_order y 0 h2]; rfl
  clear h1 h2
  go_enter Try.func28, Try.ntmps28
  go_wp2
  go_ret
  exact ⟨rfl, (Gr.refl w).drew⟩
theorem rplusW (x y : Nat) (E F : Int) (X Y : Nat) (P : Nat → Prop) (w : World)
    (hsa : ∀ w, (binOp .sub 22 (.float .f64 x) (.float .f64 x)).run Try.prog w = .ok (.float .f64 0) w)
    (FA : Hid (∀ w, Calls Try.prog 44 #[.float .f64 x] w fun res w' => ∃ ad n cap, res = .returned (.agg #[.bool false, .slice ad n cap, .int .i64 E]) ∧ Lim w' ad n cap 18446744073709551616 X ∧ Gr w w'))
    (FB : Hid (∀ w, Calls Try.prog 44 #[.float .f64 y] w fun res w' => ∃ ad n cap, res = .returned (.agg #[.bool false, .slice ad n cap, .int .i64 F]) ∧ Lim w' ad n cap 18446744073709551616 Y ∧ Gr w w'))
    (PU : Hid (∀ (w : World) ad n cap ad' n' cap', Lim w ad n cap 18446744073709551616 X → Lim w ad' n' cap' 18446744073709551616 Y → Calls Try.prog 43 #[.agg #[.bool false, .slice ad n cap, .int .i64 E], .agg #[.bool false, .slice ad' n' cap', .int .i64 F]] w fun r w' => ∃ neg ad n cap g, r = .returned (.agg #[.bool neg, .slice ad n cap, .int .i64 g]) ∧ Gr w w' ∧ Hid (∀ w1, Gr w' w1 → Calls Try.prog 42 #[.agg #[.bool neg, .slice ad n cap, .int .i64 g]] w1 fun e w' => (∃ r, P r ∧ e = .returned (.float .f64 r)) ∧ Gr w1 w'))) :
    Calls Try.prog 28 #[.float .f64 x, .float .f64 y] w fun e w' => (∃ r, P r ∧ e = .returned (.float .f64 r)) ∧ Gr w w' := by
  have hz : (FloatKind.f64.format.order 0 0 != some .eq) = false := by decide +kernel
  have tok : True := trivial
  go_enter Try.func28, Try.ntmps28
  go_wp2_with (first | (go_at_call 44; have _t := tok; (with_reducible refine (FA.out _).mono ?_); rintro r w1 ⟨a1, n1, c1, rfl, l1, g1⟩; clear tok) | (go_at_call 44; (with_reducible refine (FB.out _).mono ?_); rintro r w2 ⟨a2, n2, c2, rfl, l2, g2⟩; have l1' := l1.gr g2; have G2 := g1.trans g2) | (go_at_call 43; (with_reducible refine (PU.out _ _ _ _ _ _ _ l1' l2).mono ?_); rintro r w3 ⟨neg, a3, n3, c3, gg, rfl, gA, HUP⟩; have G3 := G2.trans gA) | (go_at_call 42; (with_reducible refine (HUP.out _ (Gr.refl _)).mono ?_); rintro r w4 ⟨⟨r4, h4, rfl⟩, g4⟩))
  go_ret
  exact ⟨⟨r4, h4, rfl⟩, G3.trans g4⟩
theorem rplus (a b : Nat) (w : World) (ha : a < 9218868437227405312) (hb : b < 9218868437227405312) :
    Calls Try.prog 28 #[.float .f64 a, .float .f64 b] w fun e w' => (∃ r, DirUp (M a + M b) 1 r ∧ e = .returned (.float .f64 r)) ∧ Gr w w' := by
  have hea : ex a ≤ 2046 := by unfold ex; omega
  have heb : ex b ≤ 2046 := by unfold ex; omega
  have hma := bl_mant a
  have hmb := bl_mant b
  refine rplusW a b ((ex a : Int) - 1074) ((ex b : Int) - 1074) (mant a) (mant b) (fun r => DirUp (M a + M b) 1 r) w (fun w => sub_run w _ _ _ (sub_self false a ha)) (fun w => float41 false a w ha) (fun w => float41 false b w hb) (fun w ad n cap ad' n' cap' h1 h2 => ?_)
  obtain ⟨neg, m, g, q1, q2, q3, q4⟩ := plus40 false false ad ad' n n' cap cap' (mant a) (mant b) ((ex a : Int) - 1074) ((ex b : Int) - 1074) w h1 h2 (by omega) (by omega) (by omega) (by omega) (by omega) (by omega)
  obtain ⟨k1, k2⟩ := q1 2148 (by omega) (by omega)
  refine (q4 w (Gr.refl _)).mono ?_
  rintro r w' ⟨ad3, n3, cap3, rfl, l3, g3⟩
  obtain ⟨A, hA, hU⟩ := U_form
  have hva : ∀ c, sv 2148 false (mant c) ((ex c : Int) - 1074) = ((M c * U : Nat) : Int) := fun c => by
    unfold sv M
    rw [if_neg (by decide), hU, Nat.mul_assoc, ← Nat.pow_add, show ((ex c : Int) - 1074 + 2148).toNat = ex c + A by omega]
  rw [hva, hva] at k2
  have hneg : neg = true → m = 0 := fun hn => by
    refine Nat.eq_zero_of_not_pos fun hp => ?_
    have := (sv_sign 2148 neg m g hp).1 hn
    omega
  obtain ⟨P, hP⟩ : ∃ P : Nat, (P : Int) = g + 2148 := ⟨(g + 2148).toNat, by omega⟩
  have hval : m * 2 ^ P = (M a + M b) * U := by
    have h5 : sv 2148 neg m g = ((m * 2 ^ P : Nat) : Int) := by
      cases neg
      · unfold sv
        rw [if_neg (by decide), show (g + 2148).toNat = P by omega]
      · rw [hneg rfl, sv_zero, Nat.zero_mul]; rfl
    rw [h5] at k2
    rw [Nat.add_mul]
    omega
  refine ⟨neg, ad3, n3, cap3, g, rfl, g3, fun w1 g1 => ?_⟩
  obtain ⟨r, u1, u2⟩ := upR neg ad3 n3 cap3 m P g w' l3 hneg (by omega) (by omega) (by omega) hP
  refine (u2 w1 g1).mono ?_
  rintro e w2 ⟨rfl, g4⟩
  rw [hval] at u1
  exact ⟨⟨r, dirUp_scale U_pos (by rw [Nat.one_mul]; exact u1), rfl⟩, g4⟩
end Go.Proofs.Ytcgbdpgfpickaaa.Fl
namespace Go.Proofs.Ytcgbdpgfpickaaa.Fl
open Go.RowKit
open Ieee
set_option linter.unusedVariables false

/-! THE DOCUMENT'S ORDER, SIZE, PARTS, ROOTS -/
theorem rorder (o : Int) (w : World) : Calls Try.prog 23 #[.int .i64 o] w fun e w' => e = .returned (.bool (decide (0 ≤ o) && decide (o ≤ 14))) ∧ w' = w := by
  by_cases h1 : 0 ≤ o
  · have h2 : o ≥ 0 := h1
    by_cases h3 : o ≤ 14
    all_goals
      go_enter Try.func23, Try.ntmps23
      go_wp2
      go_ret
      exact ⟨by simp [h1, h3], rfl⟩
  · have h2 : ¬ o ≥ 0 := h1
    go_enter Try.func23, Try.ntmps23
    go_wp2
    go_ret
    exact ⟨by rw [decide_eq_false (by omega)]; rfl, rfl⟩
theorem rsize (s : Bool) (r : Nat) (w : World) (hr : r < 9223372036854775808) : Calls Try.prog 27 #[.float .f64 (W s r)] w fun e w' => e = .returned (.bool (sizeB (W s r))) ∧ Gr w w' := by
  by_cases hf : r < 9218868437227405312
  · have hsa : ∀ w, (binOp .sub 22 (.float .f64 (W s r)) (.float .f64 (W s r))).run Try.prog w = .ok (.float .f64 0) w := fun w => sub_run w _ _ _ (sub_self s r hf)
    have hz := z0
    have hp : pinfB (W s r) = false := by rw [pinfB_W s r (by omega), decide_eq_false (by omega), Bool.and_false]
    have hq : sizeB (W s r) = (FloatKind.f64.format.order (W s r) 0 == some .gt || FloatKind.f64.format.order (W s r) 0 == some .eq) := by
      unfold sizeB posB zeroB
      rw [hp]; simp
    rw [hq]
    clear hq hp
    generalize W s r = x at *
    go_enter Try.func27, Try.ntmps27
    go_wp2
    go_ret
    exact ⟨rfl, Gr.refl w⟩
  · have hno : double.sub (W s r) (W s r) = none := by
      by_cases hi : r = 9218868437227405312
      · subst hi; exact sub_inf s
      · exact sub_nan s r _ hr (by omega)
    obtain ⟨y, h1, h2⟩ := run_float_nan .sub (by simp) 22 (W s r) (W s r) w hno
    have h3 : (FloatKind.f64.format.order y 0 == some .eq) = false := nan_order y 0 h2
    have hq : sizeB (W s r) = false := by rw [sizeB_W s r hr, decide_eq_false hf]; rfl
    rw [hq]
    clear hq h2 hno
    generalize W s r = x at *
    go_enter Try.func27, Try.ntmps27
    go_wp2
    go_ret
    exact ⟨rfl, (Gr.refl w).drew⟩
theorem rpart (n k R : Nat) (w : World) (hn : n ≤ 1000) (hk : k ≤ 14) (hR : M R = n * 2 ^ (k + 1021)) (hf : R < 9218868437227405312) :
    Calls Try.prog 30 #[.int .i64 (n : Int), .int .i64 (k : Int)] w fun e w' => e = .returned (.float .f64 R) ∧ w' = w := by
  obtain ⟨A, hA⟩ : ∃ A : Nat, A = k + 1021 := ⟨_, rfl⟩
  rw [← hA] at hR
  have hF : floatOfInt .f64 (n : Int) = W false (ofN n) := by rw [floatOfInt_W _ (by omega)]; rw [decide_eq_false (by omega)]; rfl
  have HL : Hid (∀ w, Calls Try.prog 22 #[.float .f64 (floatOfInt .f64 (n : Int)), .int .i64 ((k : Int) - 53)] w fun e w' => e = .returned (.float .f64 R) ∧ w' = w) := fun w => by
    rw [hF]
    by_cases h0 : n = 0
    · subst h0
      rw [Nat.zero_mul] at hR
      rw [M_inj0 hR]
      exact ldexp_same _ _ w (by decide +kernel)
    · obtain ⟨q1, q2, _⟩ := ofN_spec n (by omega)
      have := ldexpN (ofN n) n R A ((k : Int) - 53) (by omega) q2 q1 (by omega) (by omega) hR w
      rw [Nat.min_eq_left (by omega)] at this
      exact this
  clear hF hR
  go_enter Try.func30, Try.ntmps30
  go_wp2_with (go_at_call 22; with_reducible refine (HL.out _).mono ?_; rintro e w' ⟨rfl, rfl⟩)
  go_ret
  exact ⟨rfl, rfl⟩
def mT : List Nat := [4843235051468438477, 4843235051468438477, 4847738651095808973, 4847738651095808973, 4852242250723179469, 4852242250723179469, 4856745850350549965, 4856745850350549965, 4861249449977920461, 4861249449977920461, 4865753049605290957, 4865753049605290957, 4870256649232661453, 4870256649232661453, 4874760248860031949]
theorem m_all : (List.range 15).all (fun k => k % 2 == 0 && p2T.getD (k / 2) 0 == sqT.getD k 0 || k % 2 == 1 && double.mul (p2T.getD (k / 2) 0) 4843235051468438477 == some (mT.getD k 0) && double.div (mT.getD k 0) 4841369599423283200 == some (sqT.getD k 0)) = true := by decide +kernel
theorem rroot (k : Nat) (w : World) (hk : k ≤ 14) : Calls Try.prog 32 #[.int .i64 (k : Int)] w fun e w' => e = .returned (.float .f64 (sqT.getD k 0)) ∧ w' = w := by
  have hm := List.all_eq_true.1 m_all k (List.mem_range.2 (by omega))
  have HL : Hid (∀ w, Calls Try.prog 22 #[.float .f64 4607182418800017408, .int .i64 ((k / 2 : Nat) : Int)] w fun e w' => e = .returned (.float .f64 (p2T.getD (k / 2) 0)) ∧ w' = w) := fun w => ldexp_k (k / 2) (by omega) w
  rw [show ((k / 2 : Nat) : Int) = (k : Int) / 2 by omega] at HL
  by_cases hp : k % 2 = 0
  · have he : p2T.getD (k / 2) 0 = sqT.getD k 0 := by simpa [hp] using hm
    rw [he] at HL
    have hr : (k : Int) % 2 = 0 := by omega
    generalize sqT.getD k 0 = z at *
    clear hm he
    go_enter Try.func32, Try.ntmps32
    go_wp2_with (go_at_call 22; with_reducible refine (HL.out _).mono ?_; rintro e w' ⟨rfl, rfl⟩)
    go_ret
    exact ⟨rfl, rfl⟩
  · have hp1 : k % 2 = 1 := by omega
    have he : double.mul (p2T.getD (k / 2) 0) 4843235051468438477 = some (mT.getD k 0) ∧ double.div (mT.getD k 0) 4841369599423283200 = some (sqT.getD k 0) := by simpa [hp1] using hm
    have hr : (k : Int) % 2 = 1 := by omega
    have q1 : ∀ w, (binOp .mul 22 (.float .f64 (p2T.getD (k / 2) 0)) (.float .f64 4843235051468438477)).run Try.prog w = .ok (.float .f64 (mT.getD k 0)) w := fun w => mul_run w _ _ _ he.1
    have q2 : ∀ w, (binOp .quo 22 (.float .f64 (mT.getD k 0)) (.float .f64 4841369599423283200)).run Try.prog w = .ok (.float .f64 (sqT.getD k 0)) w := fun w => div_run w _ _ _ he.2
    clear hm he
    generalize sqT.getD k 0 = z at *
    generalize p2T.getD (k / 2) 0 = p at *
    generalize mT.getD k 0 = m at *
    go_enter Try.func32, Try.ntmps32
    go_wp2_with (go_at_call 22; with_reducible refine (HL.out _).mono ?_; rintro e w' ⟨rfl, rfl⟩)
    go_ret
    exact ⟨rfl, rfl⟩
theorem rrootsA (o : Int) (w : World) (h : ¬ (0 ≤ o ∧ o ≤ 14)) : Calls Try.prog 7 #[.int .i64 o] w fun e w' => e = .returned (.tuple #[.float .f64 0, .int .i64 2]) ∧ w' = w := by
  have HO : Hid (∀ w, Calls Try.prog 23 #[.int .i64 o] w fun e w' => e = .returned (.bool false) ∧ w' = w) := fun w => by
    have := rorder o w
    rw [show (decide (0 ≤ o) && decide (o ≤ 14)) = false by simpa using fun h1 => Classical.not_not.1 fun h2 => h ⟨h1, by omega⟩] at this
    exact this
  go_enter Try.func7, Try.ntmps7
  go_wp2_with (go_at_call 23; with_reducible refine (HO.out _).mono ?_; rintro e w' ⟨rfl, rfl⟩)
  go_ret2
  exact ⟨rfl, rfl⟩
theorem rrootsD (o : Int) (w : World) (h : 0 ≤ o ∧ o ≤ 14) : Calls Try.prog 7 #[.int .i64 o] w fun e w' => e = .returned (.tuple #[.float .f64 4368491638549381120, .int .i64 0]) ∧ w' = w := by
  have HO : Hid (∀ w, Calls Try.prog 23 #[.int .i64 o] w fun e w' => e = .returned (.bool true) ∧ w' = w) := fun w => by
    have := rorder o w
    rw [show (decide (0 ≤ o) && decide (o ≤ 14)) = true by simp [h.1, h.2]] at this
    exact this
  go_enter Try.func7, Try.ntmps7
  go_wp2_with (first | (go_at_call 23; with_reducible refine (HO.out _).mono ?_; rintro e w' ⟨rfl, rfl⟩) | (go_at_call 22; with_reducible refine (ldexp_u _).mono ?_; rintro e w' ⟨rfl, rfl⟩))
  go_ret2
  exact ⟨rfl, rfl⟩
end Go.Proofs.Ytcgbdpgfpickaaa.Fl
namespace Go.Proofs.Ytcgbdpgfpickaaa.Fl
open Go.RowKit
open Ieee
set_option linter.unusedVariables false

/-! THE DOCUMENT'S Turn -/
theorem M900 : M 8660422083433463808 = 1 * 2 ^ 1974 := by decide +kernel
theorem M1000 : M 103582791429521408 = 1 * 2 ^ 74 := by decide +kernel
theorem ldexp_900 (w : World) : Calls Try.prog 22 #[.float .f64 4607182418800017408, .int .i64 900] w fun e w' => e = .returned (.float .f64 8660422083433463808) ∧ w' = w := by
  obtain ⟨A, hA⟩ : ∃ A : Nat, A = 1974 := ⟨_, rfl⟩
  have hM := M900
  rw [← hA] at hM
  have := ldexpN 4607182418800017408 1 8660422083433463808 A 900 (by omega) (by omega) (by rw [M_1, Nat.one_mul]) (by omega) (by omega) hM w
  rw [Nat.min_eq_left (by omega)] at this
  exact this
theorem ldexp_1000 (w : World) : Calls Try.prog 22 #[.float .f64 4607182418800017408, .int .i64 (-1000)] w fun e w' => e = .returned (.float .f64 103582791429521408) ∧ w' = w := by
  obtain ⟨A, hA⟩ : ∃ A : Nat, A = 74 := ⟨_, rfl⟩
  have hM := M1000
  rw [← hA] at hM
  have := ldexpN 4607182418800017408 1 103582791429521408 A (-1000) (by omega) (by omega) (by rw [M_1, Nat.one_mul]) (by omega) (by omega) hM w
  rw [Nat.min_eq_left (by omega)] at this
  exact this
theorem rturnA (o : Int) (x : Nat) (w : World) (h : ¬ (0 ≤ o ∧ o ≤ 14)) :
    Calls Try.prog 10 #[.int .i64 o, .float .f64 x] w fun e w' => e = .returned (.tuple #[.float .f64 0, .int .i64 2]) ∧ Gr w w' := by
  have HO : Hid (∀ w, Calls Try.prog 23 #[.int .i64 o] w fun e w' => e = .returned (.bool false) ∧ w' = w) := fun w => by
    have := rorder o w
    rw [show (decide (0 ≤ o) && decide (o ≤ 14)) = false by simpa using fun h1 => Classical.not_not.1 fun h2 => h ⟨h1, by omega⟩] at this
    exact this
  go_enter Try.func10, Try.ntmps10
  go_wp2_with (go_at_call 23; with_reducible refine (HO.out _).mono ?_; rintro e w' ⟨rfl, rfl⟩)
  go_ret2
  exact ⟨rfl, Gr.refl _⟩
theorem rturnR (o : Int) (s : Bool) (r : Nat) (w : World) (hr : r < 9223372036854775808) (h : 0 ≤ o ∧ o ≤ 14) (hz : NoSize s r) :
    Calls Try.prog 10 #[.int .i64 o, .float .f64 (W s r)] w fun e w' => e = .returned (.tuple #[.float .f64 0, .int .i64 5]) ∧ Gr w w' := by
  have HO : Hid (∀ w, Calls Try.prog 23 #[.int .i64 o] w fun e w' => e = .returned (.bool true) ∧ w' = w) := fun w => by
    have := rorder o w
    rw [show (decide (0 ≤ o) && decide (o ≤ 14)) = true by simp [h.1, h.2]] at this
    exact this
  have HZ : Hid (∀ w, Calls Try.prog 27 #[.float .f64 (W s r)] w fun e w' => e = .returned (.bool false) ∧ Gr w w') := fun w => by
    have := rsize s r w hr
    rw [noSizeB hr hz] at this
    exact this
  generalize W s r = x at *
  go_enter Try.func10, Try.ntmps10
  go_wp2_with (first | (go_at_call 23; with_reducible refine (HO.out _).mono ?_; rintro e w' ⟨rfl, rfl⟩) | (go_at_call 27; with_reducible refine (HZ.out _).mono ?_; rintro e w1 ⟨rfl, g1⟩))
  go_ret2
  exact ⟨rfl, g1⟩
theorem rturnO (o : Int) (s : Bool) (r : Nat) (w : World) (h : 0 ≤ o ∧ o ≤ 14) (hz : r < 9218868437227405312) (hs : s = true → r = 0) (hb : 8660422083433463808 < r) :
    Calls Try.prog 10 #[.int .i64 o, .float .f64 (W s r)] w fun e w' => e = .returned (.tuple #[.float .f64 0, .int .i64 6]) ∧ Gr w w' := by
  have HO : Hid (∀ w, Calls Try.prog 23 #[.int .i64 o] w fun e w' => e = .returned (.bool true) ∧ w' = w) := fun w => by
    have := rorder o w
    rw [show (decide (0 ≤ o) && decide (o ≤ 14)) = true by simp [h.1, h.2]] at this
    exact this
  have HZ : Hid (∀ w, Calls Try.prog 27 #[.float .f64 (W s r)] w fun e w' => e = .returned (.bool true) ∧ Gr w w') := fun w => by
    have := rsize s r w (by omega)
    rw [isSizeB hz hs] at this
    exact this
  have hov : (FloatKind.f64.format.order (W s r) 8660422083433463808 == some .gt) = true := by
    have := overB_W s r (by omega) hs
    rw [decide_eq_true hb] at this
    exact this
  generalize W s r = x at *
  go_enter Try.func10, Try.ntmps10
  go_wp2_with (first | (go_at_call 23; with_reducible refine (HO.out _).mono ?_; rintro e w' ⟨rfl, rfl⟩) | (go_at_call 27; with_reducible refine (HZ.out _).mono ?_; rintro e w1 ⟨rfl, g1⟩) | (go_at_call 22; with_reducible refine (ldexp_900 _).mono ?_; rintro e w' ⟨rfl, rfl⟩))
  go_ret2
  exact ⟨rfl, g1⟩
theorem rturnW (k x u : Nat) (P : Nat → Prop) (Q : Nat → Prop) (w : World) (hk : k ≤ 14) (hov : (FloatKind.f64.format.order x 8660422083433463808 == some .gt) = false)
    (HO : Hid (∀ w, Calls Try.prog 23 #[.int .i64 (k : Int)] w fun e w' => e = .returned (.bool true) ∧ w' = w))
    (HZ : Hid (∀ w, Calls Try.prog 27 #[.float .f64 x] w fun e w' => e = .returned (.bool true) ∧ Gr w w'))
    (HP : Hid (∀ w, Calls Try.prog 30 #[.int .i64 (8 * (k : Int)), .int .i64 (k : Int)] w fun e w' => e = .returned (.float .f64 u) ∧ w' = w))
    (HT : Hid (∀ w, Calls Try.prog 29 #[.float .f64 u, .float .f64 x] w fun e w' => (∃ r, P r ∧ e = .returned (.float .f64 r)) ∧ Gr w w'))
    (HS : Hid (∀ p w, P p → Calls Try.prog 28 #[.float .f64 p, .float .f64 103582791429521408] w fun e w' => (∃ r, Q r ∧ e = .returned (.float .f64 r)) ∧ Gr w w')) :
    Calls Try.prog 10 #[.int .i64 (k : Int), .float .f64 x] w fun e w' => (∃ r, Q r ∧ e = .returned (.tuple #[.float .f64 r, .int .i64 0])) ∧ Gr w w' := by
  go_enter Try.func10, Try.ntmps10
  go_wp2_with (first | (go_at_call 23; with_reducible refine (HO.out _).mono ?_; rintro e w' ⟨rfl, rfl⟩) | (go_at_call 27; with_reducible refine (HZ.out _).mono ?_; rintro e w1 ⟨rfl, g1⟩) | (go_at_call 22; with_reducible refine (ldexp_900 _).mono ?_; rintro e w' ⟨rfl, rfl⟩) | (go_at_call 22; with_reducible refine (ldexp_1000 _).mono ?_; rintro e w' ⟨rfl, rfl⟩) | (go_at_call 30; with_reducible refine (HP.out _).mono ?_; rintro e w' ⟨rfl, rfl⟩) | (go_at_call 29; with_reducible refine (HT.out _).mono ?_; rintro e w2 ⟨⟨p2, hp2, rfl⟩, g2⟩; have HP2 := hidden hp2; clear hp2) | (go_at_call 28; with_reducible refine (HS.out _ _ HP2.out).mono ?_; rintro e w3 ⟨⟨p3, hp3, rfl⟩, g3⟩; have HP3 := hidden hp3; clear hp3))
  go_ret2
  exact ⟨⟨_, HP3.out, rfl⟩, (g1.trans g2).trans g3⟩
theorem rturnP (k : Nat) (s : Bool) (r : Nat) (w : World) (hk : k ≤ 14) (hr : r ≤ 8660422083433463808) (hs : s = true → r = 0) :
    Calls Try.prog 10 #[.int .i64 (k : Int), .float .f64 (W s r)] w fun e w' => (∃ r2, (∃ p, DirUp (M (uA.getD k 0) * M r) U p ∧ DirUp (M p + M 103582791429521408) 1 r2) ∧ e = .returned (.tuple #[.float .f64 r2, .int .i64 0])) ∧ Gr w w' := by
  obtain ⟨u1, u2⟩ := uA_at k hk
  refine rturnW k (W s r) (uA.getD k 0) (fun p => DirUp (M (uA.getD k 0) * M r) U p) (fun r2 => ∃ p, DirUp (M (uA.getD k 0) * M r) U p ∧ DirUp (M p + M 103582791429521408) 1 r2) w hk ?_ (fun w => ?_) (fun w => ?_) (fun w => ?_) (fun w => ?_) (fun p w hp => ?_)
  · have := overB_W s r (by omega) hs
    rw [decide_eq_false (by omega)] at this
    exact this
  · have := rorder (k : Int) w
    rw [show (decide (0 ≤ (k : Int)) && decide ((k : Int) ≤ 14)) = true by rw [decide_eq_true (by omega), decide_eq_true (by omega)]; rfl] at this
    exact this
  · have := rsize s r w (by omega)
    rw [isSizeB (by omega) hs] at this
    exact this
  · have := rpart (8 * k) k (uA.getD k 0) w (by omega) hk u1 (by omega)
    rw [show ((8 * k : Nat) : Int) = 8 * (k : Int) by omega] at this
    exact this
  · exact rtimes false s (uA.getD k 0) r w (by omega) (by omega) (fun h => by cases h) hs
  · have q1 : p ≤ 8525314094612348928 := dirUp_le hp U_pos (Nat.le_trans (Nat.mul_le_mul (M_le u2) (M_le hr)) c870)
    refine (rplus p 103582791429521408 w (by omega) (by omega)).mono ?_
    rintro e w' ⟨⟨r2, h2, rfl⟩, g⟩
    exact ⟨⟨r2, ⟨p, hp, h2⟩, rfl⟩, g⟩
end Go.Proofs.Ytcgbdpgfpickaaa.Fl
