import Derived.Test.YteompnpfoplppaaB2
namespace Go.Proofs.Yteompnpfoplppaa
open Go.RowKit
open Ieee
set_option linter.unusedVariables false

theorem against0 (s t u : Bool) (a b c : Nat) (ha : a < 9218868437227405312) (hb : b < 9218868437227405312) (hc : c < 9218868437227405312) (w : World) :
    Calls Try.prog 26 #[.int .i64 0, .float .f64 (W s a), .float .f64 (W t b), .float .f64 (W u c)] w fun r w' => r = .returned (.int .i64 (sg (val u c - (val s a + val t b)))) ∧ Gr w w' := by
  have hea := ex_le ha
  have heb := ex_le hb
  have hec := ex_le hc
  have hba := bl_mant a
  have hbb := bl_mant b
  have hbc := bl_mant c
  refine ag_0 _ _ _ _ w s t u (mant a) (mant b) (mant c) ((ex a : Int) - 1074) ((ex b : Int) - 1074) ((ex c : Int) - 1074)
    (fun w1 neg ad n cap m g => Lim w1 ad n cap 18446744073709551616 m ∧ bl m ≤ 5000 ∧ -3000 ≤ g ∧ g ≤ 3000 ∧ 0 ≤ g + 1074 ∧ sv 1074 neg m g = val s a + val t b)
    (fun w1 => float41 s a w1 ha) (fun w1 => float41 t b w1 hb) (fun w1 => float41 u c w1 hc) ?_ ?_
  · intro w1 p1 l1 q1 p2 l2 q2 p3 l3 q3 h1 h2 h3
    obtain ⟨neg, m, g, k1, k2, k3, k4⟩ := plus40 s t p1 p2 l1 l2 q1 q2 (mant a) (mant b) ((ex a : Int) - 1074) ((ex b : Int) - 1074) w1 h1 h2 (by omega) (by omega) (by omega) (by omega) (by omega) (by omega)
    have k5 := k1 1074 (by omega) (by omega)
    rw [val_sv s a 1074 (by omega), val_sv t b 1074 (by omega)] at k5
    refine (k4 w1 (Gr.refl w1)).mono ?_
    rintro r w' ⟨ad, n, cap, rfl, hl, hg⟩
    exact ⟨neg, ad, n, cap, m, g, rfl, ⟨hl, by omega, by omega, by omega, k5.1, by rw [k5.2]; simp⟩, hg⟩
  · intro w1 p1 l1 q1 p2 l2 q2 p3 l3 q3 neg ad n cap m g h1 h2 h3 hq
    have := compare45 u neg p3 ad l3 n q3 cap (mant c) m ((ex c : Int) - 1074) g w1 h3 hq.1 (by omega) (by omega) (by omega) (by omega) (by omega) (by omega) 1074 (by omega) hq.2.2.2.2.1
    rw [hq.2.2.2.2.2, val_sv u c 1074 (by omega)] at this
    simpa using this
theorem against1 (s t u : Bool) (a b c : Nat) (ha : a < 9218868437227405312) (hb : b < 9218868437227405312) (hc : c < 9218868437227405312) (w : World) :
    Calls Try.prog 26 #[.int .i64 1, .float .f64 (W s a), .float .f64 (W t b), .float .f64 (W u c)] w fun r w' => r = .returned (.int .i64 (sg (val u c - (val s a - val t b)))) ∧ Gr w w' := by
  have hea := ex_le ha
  have heb := ex_le hb
  have hec := ex_le hc
  have hba := bl_mant a
  have hbb := bl_mant b
  have hbc := bl_mant c
  refine ag_1 _ _ _ _ w s t u (mant a) (mant b) (mant c) ((ex a : Int) - 1074) ((ex b : Int) - 1074) ((ex c : Int) - 1074)
    (fun w1 neg ad n cap m g => Lim w1 ad n cap 18446744073709551616 m ∧ bl m ≤ 5000 ∧ -3000 ≤ g ∧ g ≤ 3000 ∧ 0 ≤ g + 1074 ∧ sv 1074 neg m g = val s a - val t b)
    (fun w1 => float41 s a w1 ha) (fun w1 => float41 t b w1 hb) (fun w1 => float41 u c w1 hc) ?_ ?_
  · intro w1 p1 l1 q1 p2 l2 q2 p3 l3 q3 h1 h2 h3
    obtain ⟨neg, m, g, k1, k2, k3, k4⟩ := less49 s t p1 p2 l1 l2 q1 q2 (mant a) (mant b) ((ex a : Int) - 1074) ((ex b : Int) - 1074) w1 h1 h2 (by omega) (by omega) (by omega) (by omega) (by omega) (by omega)
    have k5 := k1 1074 (by omega) (by omega)
    rw [val_sv s a 1074 (by omega), val_sv t b 1074 (by omega)] at k5
    refine (k4 w1 (Gr.refl w1)).mono ?_
    rintro r w' ⟨ad, n, cap, rfl, hl, hg⟩
    exact ⟨neg, ad, n, cap, m, g, rfl, ⟨hl, by omega, by omega, by omega, k5.1, by rw [k5.2]; simp⟩, hg⟩
  · intro w1 p1 l1 q1 p2 l2 q2 p3 l3 q3 neg ad n cap m g h1 h2 h3 hq
    have := compare45 u neg p3 ad l3 n q3 cap (mant c) m ((ex c : Int) - 1074) g w1 h3 hq.1 (by omega) (by omega) (by omega) (by omega) (by omega) (by omega) 1074 (by omega) hq.2.2.2.2.1
    rw [hq.2.2.2.2.2, val_sv u c 1074 (by omega)] at this
    simpa using this
/-- a product of two floats' numbers -/
def QP (s t : Bool) (a b : Nat) : World → Bool → Option Addr → Nat → Nat → Nat → Int → Prop := fun w1 neg ad n cap m g => Lim w1 ad n cap 18446744073709551616 m ∧ neg = (s != t) ∧ m = mant a * mant b ∧ g = (ex a : Int) - 1074 + ((ex b : Int) - 1074)
theorem times_QP (s t : Bool) (a b : Nat) (ha : a < 9218868437227405312) (hb : b < 9218868437227405312) (w1 : World) (p1 p2 : Option Addr) (l1 q1 l2 q2 : Nat) (h1 : Lim w1 p1 l1 q1 18446744073709551616 (mant a)) (h2 : Lim w1 p2 l2 q2 18446744073709551616 (mant b)) :
    Calls Try.prog 43 #[.agg #[.bool s, .slice p1 l1 q1, .int .i64 ((ex a : Int) - 1074)], .agg #[.bool t, .slice p2 l2 q2, .int .i64 ((ex b : Int) - 1074)]] w1 fun r w' => ∃ neg ad n cap m g, r = .returned (.agg #[.bool neg, .slice ad n cap, .int .i64 g]) ∧ QP s t a b w' neg ad n cap m g ∧ Gr w1 w' := by
  have hea := ex_le ha
  have heb := ex_le hb
  have hba := bl_mant a
  have hbb := bl_mant b
  refine (times43 s t p1 p2 l1 l2 q1 q2 (mant a) (mant b) _ _ w1 h1 h2 (by omega) (by omega) (by omega) (by omega) (by omega) (by omega)).mono ?_
  rintro r w' ⟨ad, n, cap, rfl, hl, hg⟩
  exact ⟨_, ad, n, cap, _, _, rfl, ⟨hl, rfl, rfl, rfl⟩, hg⟩
theorem sv_QP (s t : Bool) (a b : Nat) : sv (1074 + 1074) (s != t) (mant a * mant b) ((ex a : Int) - 1074 + ((ex b : Int) - 1074)) = val s a * val t b := by
  rw [sv_mul 1074 1074 s t _ _ _ _ (by omega) (by omega), val_sv s a 1074 (by omega), val_sv t b 1074 (by omega)]
  have e0 : ((1074 : Int) - 1074).toNat = 0 := rfl
  rw [e0]
  simp only [Nat.pow_zero, Int.natCast_one, Int.mul_one]
theorem sv_QU (s : Bool) (a : Nat) : sv (1074 + 1074) s (mant a) ((ex a : Int) - 1074) = val s a * (U : Int) := by
  rw [val_sv s a (1074 + 1074) (by omega), U_eq]
  have e1 : ((1074 : Int) + 1074 - 1074).toNat = E74 := rfl
  rw [e1]
theorem cmp_QL (s t u : Bool) (a b c : Nat) (ha : a < 9218868437227405312) (hb : b < 9218868437227405312) (hc : c < 9218868437227405312) (w1 : World) (p3 ad : Option Addr) (l3 q3 n cap m : Nat) (neg : Bool) (g : Int) (h3 : Lim w1 p3 l3 q3 18446744073709551616 (mant c)) (hq : QP s t a b w1 neg ad n cap m g) :
    (Calls Try.prog 45 #[.agg #[.bool u, .slice p3 l3 q3, .int .i64 ((ex c : Int) - 1074)], .agg #[.bool neg, .slice ad n cap, .int .i64 g]] w1 fun r w' => r = .returned (.int .i64 (sg (val u c * (U : Int) - val s a * val t b))) ∧ Gr w1 w') ∧
    (Calls Try.prog 45 #[.agg #[.bool neg, .slice ad n cap, .int .i64 g], .agg #[.bool u, .slice p3 l3 q3, .int .i64 ((ex c : Int) - 1074)]] w1 fun r w' => r = .returned (.int .i64 (sg (val s a * val t b - val u c * (U : Int)))) ∧ Gr w1 w') := by
  obtain ⟨hl, rfl, rfl, rfl⟩ := hq
  have hea := ex_le ha
  have heb := ex_le hb
  have hec := ex_le hc
  have hbc := bl_mant c
  have hbp := bl_prod (a := a) (b := b)
  constructor
  · have := compare45 u (s != t) p3 ad l3 n q3 cap (mant c) (mant a * mant b) ((ex c : Int) - 1074) ((ex a : Int) - 1074 + ((ex b : Int) - 1074)) w1 h3 hl (by omega) (by omega) (by omega) (by omega) (by omega) (by omega) (1074 + 1074) (by omega) (by omega)
    rw [sv_QP, sv_QU] at this
    exact this
  · have := compare45 (s != t) u ad p3 n l3 cap q3 (mant a * mant b) (mant c) ((ex a : Int) - 1074 + ((ex b : Int) - 1074)) ((ex c : Int) - 1074) w1 hl h3 (by omega) (by omega) (by omega) (by omega) (by omega) (by omega) (1074 + 1074) (by omega) (by omega)
    rw [sv_QP, sv_QU] at this
    exact this
theorem against2 (s t u : Bool) (a b c : Nat) (ha : a < 9218868437227405312) (hb : b < 9218868437227405312) (hc : c < 9218868437227405312) (w : World) :
    Calls Try.prog 26 #[.int .i64 2, .float .f64 (W s a), .float .f64 (W t b), .float .f64 (W u c)] w fun r w' => r = .returned (.int .i64 (sg (val u c * (U : Int) - val s a * val t b))) ∧ Gr w w' :=
  ag_2 _ _ _ _ w s t u (mant a) (mant b) (mant c) _ _ _ (QP s t a b) (fun w1 => float41 s a w1 ha) (fun w1 => float41 t b w1 hb) (fun w1 => float41 u c w1 hc)
    (fun w1 p1 l1 q1 p2 l2 q2 p3 l3 q3 h1 h2 h3 => times_QP s t a b ha hb w1 p1 p2 l1 q1 l2 q2 h1 h2)
    (fun w1 p1 l1 q1 p2 l2 q2 p3 l3 q3 neg ad n cap m g h1 h2 h3 hq => (cmp_QL s t u a b c ha hb hc w1 p3 ad l3 q3 n cap m neg g h3 hq).1)
theorem against3n (s t u : Bool) (a b c : Nat) (ha : a < 9218868437227405312) (hb : b < 9218868437227405312) (hc : c < 9218868437227405312) (hn : negB (W t b) = true) (w : World) :
    Calls Try.prog 26 #[.int .i64 3, .float .f64 (W s a), .float .f64 (W t b), .float .f64 (W u c)] w fun r w' => r = .returned (.int .i64 (sg (val s a * (U : Int) - val u c * val t b))) ∧ Gr w w' :=
  ag_3n _ _ _ _ w s t u (mant a) (mant b) (mant c) _ _ _ (QP u t c b) (fun w1 => float41 s a w1 ha) (fun w1 => float41 t b w1 hb) (fun w1 => float41 u c w1 hc)
    (fun w1 p1 l1 q1 p2 l2 q2 p3 l3 q3 h1 h2 h3 => times_QP u t c b hc hb w1 p3 p2 l3 q3 l2 q2 h3 h2)
    (fun w1 p1 l1 q1 p2 l2 q2 p3 l3 q3 neg ad n cap m g h1 h2 h3 hq => (cmp_QL u t s c b a hc hb ha w1 p1 ad l1 q1 n cap m neg g h1 hq).1) hn
theorem against3p (s t u : Bool) (a b c : Nat) (ha : a < 9218868437227405312) (hb : b < 9218868437227405312) (hc : c < 9218868437227405312) (hn : negB (W t b) = false) (w : World) :
    Calls Try.prog 26 #[.int .i64 3, .float .f64 (W s a), .float .f64 (W t b), .float .f64 (W u c)] w fun r w' => r = .returned (.int .i64 (sg (val u c * val t b - val s a * (U : Int)))) ∧ Gr w w' :=
  ag_3p _ _ _ _ w s t u (mant a) (mant b) (mant c) _ _ _ (QP u t c b) (fun w1 => float41 s a w1 ha) (fun w1 => float41 t b w1 hb) (fun w1 => float41 u c w1 hc)
    (fun w1 p1 l1 q1 p2 l2 q2 p3 l3 q3 h1 h2 h3 => times_QP u t c b hc hb w1 p3 p2 l3 q3 l2 q2 h3 h2)
    (fun w1 p1 l1 q1 p2 l2 q2 p3 l3 q3 neg ad n cap m g h1 h2 h3 hq => (cmp_QL u t s c b a hc hb ha w1 p1 ad l1 q1 n cap m neg g h1 hq).2) hn
theorem against4 (s t u : Bool) (a b c : Nat) (ha : a < 9218868437227405312) (hb : b < 9223372036854775808) (hc : c < 9218868437227405312) (hn : negB (W u c) = false) (w : World) :
    Calls Try.prog 26 #[.int .i64 4, .float .f64 (W s a), .float .f64 (W t b), .float .f64 (W u c)] w fun r w' => r = .returned (.int .i64 (sg (val u c * val u c - val s a * (U : Int)))) ∧ Gr w w' :=
  ag_4 _ _ _ _ w s t u (mant a) (mant b) (mant c) _ _ _ (QP u u c c) (fun w1 => float41 s a w1 ha) (fun w1 => floatAny t b w1 hb) (fun w1 => float41 u c w1 hc)
    (fun w1 p1 l1 q1 p2 l2 q2 p3 l3 q3 h1 h2 h3 => times_QP u u c c hc hc w1 p3 p3 l3 q3 l3 q3 h3 h3)
    (fun w1 p1 l1 q1 p2 l2 q2 p3 l3 q3 neg ad n cap m g h1 h2 h3 hq => (cmp_QL u u s c c a hc hc ha w1 p1 ad l1 q1 n cap m neg g h1 hq).2) hn
end Go.Proofs.Yteompnpfoplppaa
