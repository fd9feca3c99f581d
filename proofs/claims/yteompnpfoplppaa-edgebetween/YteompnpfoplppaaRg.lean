import Derived.Test.YteompnpfoplppaaRf
import Derived.Test.YteompnpfoplppaaD15
import Derived.Test.YteompnpfoplppaaT2
namespace Go.Proofs.Yteompnpfoplppaa
open Go.RowKit
open Ieee
set_option linter.unusedVariables false

set_option maxHeartbeats 800000 in
theorem radd_walk (x y S z : Nat) (up : Bool) (k : Int) (w : World) (s t : Bool) (mx my : Nat) (ex' ey : Int) (Q : World → Bool → Option Addr → Nat → Nat → Nat → Int → Prop)
    (Fa : Hid (∀ w, Calls Try.prog 35 #[.float .f64 x] w fun e w' => e = .returned (.bool true) ∧ w' = w)) (Fb : Hid (∀ w, Calls Try.prog 35 #[.float .f64 y] w fun e w' => e = .returned (.bool true) ∧ w' = w))
    (hadd : ∀ w, (binOp .add 22 (.float .f64 x) (.float .f64 y)).run Try.prog w = .ok (.float .f64 S) w) (hz : zeroB S = false)
    (HX : Hid (∀ w1, Calls Try.prog 41 #[.float .f64 x] w1 fun res w' => ∃ ad n cap, res = .returned (.agg #[.bool s, .slice ad n cap, .int .i64 ex']) ∧ Lim w' ad n cap 18446744073709551616 mx ∧ Gr w1 w'))
    (HY : Hid (∀ w1, Calls Try.prog 41 #[.float .f64 y] w1 fun res w' => ∃ ad n cap, res = .returned (.agg #[.bool t, .slice ad n cap, .int .i64 ey]) ∧ Lim w' ad n cap 18446744073709551616 my ∧ Gr w1 w'))
    (HP : Hid (∀ w1 a1 n1 c1 a2 n2 c2, Lim w1 a1 n1 c1 18446744073709551616 mx → Lim w1 a2 n2 c2 18446744073709551616 my → Calls Try.prog 40 #[.agg #[.bool s, .slice a1 n1 c1, .int .i64 ex'], .agg #[.bool t, .slice a2 n2 c2, .int .i64 ey]] w1 fun r w' => ∃ neg ad n cap m g, r = .returned (.agg #[.bool neg, .slice ad n cap, .int .i64 g]) ∧ Q w' neg ad n cap m g ∧ Gr w1 w'))
    (HC : Hid (∀ w1 neg ad n cap m g, Q w1 neg ad n cap m g → Calls Try.prog 39 #[.agg #[.bool neg, .slice ad n cap, .int .i64 g], .float .f64 S] w1 fun r w' => r = .returned (.int .i64 k) ∧ Gr w1 w'))
    (HD : Hid (∀ w1, Calls Try.prog 38 #[.float .f64 S, .int .i64 k, .bool up] w1 fun r w' => r = .returned (.float .f64 z) ∧ w' = w1)) :
    Calls Try.prog 9 #[.float .f64 x, .float .f64 y, .bool up] w fun r w' => r = .returned (.float .f64 z) ∧ Gr w w' := by
  unfold zeroB at hz
  have tok : True := trivial
  have tok2 : True := trivial
  go_enter Try.func9, Try.ntmps9
  go_wp2_with (first | (go_at_call 35; with_reducible refine (Fa.out _).mono ?_; rintro e w' ⟨rfl, rfl⟩) | (go_at_call 35; with_reducible refine (Fb.out _).mono ?_; rintro e w' ⟨rfl, rfl⟩) | (go_at_call 41; have _t := tok; with_reducible refine (HX.out _).mono ?_; rintro r w1 ⟨a1, n1, k1, rfl, hl1, g1⟩; clear tok) | (go_at_call 41; with_reducible refine (HY.out _).mono ?_; rintro r w2 ⟨a2, n2, k2, rfl, hl2, g2⟩) | (go_at_call 40; refine (HP.out _ _ _ _ _ _ _ (hl1.gr g2) hl2).mono ?_; rintro r w3 ⟨neg, a3, n3, k3, m3, e3, rfl, hq3, g3⟩) | (go_at_call 39; refine (HC.out _ _ _ _ _ _ _ hq3).mono ?_; rintro r w4 ⟨rfl, g4⟩) | (go_at_call 38; refine (HD.out _).mono ?_; rintro r w5 ⟨rfl, rfl⟩))
  go_ret
  exact ⟨rfl, ((g1.trans g2).trans g3).trans g4⟩

/-- how the document's answer stands to the nearest float, as a number -/
def kT (T : Int) (D : Int) (s : Bool) (c : Nat) : Int := if c = 9218868437227405312 then (if s then 1 else -1) else sg (T - val s c * D)
theorem kT_side (T : Int) (N D : Nat) (c : Nat) (up : Bool) (hD : 0 < D) (s : Bool) (hT : T = if s then -(N : Int) else (N : Int)) (hn : Near N D c) :
    ∃ r, sideW s c (offK (kT T (D : Int) s c)) up = W s r ∧ Dir (up != s) N D r := by
  have hv : val s c * (D : Int) = if s then -((M c * D : Nat) : Int) else ((M c * D : Nat) : Int) := by
    unfold val; cases s <;> simp [Int.neg_mul]
  have hcle := hn.1
  refine side_ok s N D c _ up hD hn ?_ ?_
  · unfold kT
    rw [offK_pos, offK_neg]
    by_cases hc : c = 9218868437227405312
    · rw [if_pos hc]
      cases s
      · simp [hc]
      · simp [hc]
    · rw [if_neg hc, hv, hT]
      cases s
      · simp only [Bool.false_eq_true, if_false]
        rcases Int.lt_trichotomy ((N : Int) - ((M c * D : Nat) : Int)) 0 with h | h | h
        · rw [sg_neg h, decide_eq_false (by decide), decide_eq_false (by omega)]
        · rw [h, sg_zero, decide_eq_false (by decide), decide_eq_false (by omega)]
        · rw [sg_pos h, decide_eq_true (by decide), decide_eq_true (by omega)]
      · simp only [if_true]
        rcases Int.lt_trichotomy (-(N : Int) - -((M c * D : Nat) : Int)) 0 with h | h | h
        · rw [sg_neg h, decide_eq_true (by decide), decide_eq_true (by omega)]
        · rw [h, sg_zero, decide_eq_false (by decide), decide_eq_false (by omega)]
        · rw [sg_pos h, decide_eq_false (by decide), decide_eq_false (by omega)]
  · unfold kT
    rw [offK_pos, offK_neg]
    by_cases hc : c = 9218868437227405312
    · rw [if_pos hc]
      cases s
      · simp [hc]
      · simp [hc]
    · rw [if_neg hc, hv, hT]
      cases s
      · simp only [Bool.false_eq_true, if_false]
        rcases Int.lt_trichotomy ((N : Int) - ((M c * D : Nat) : Int)) 0 with h | h | h
        · rw [sg_neg h, decide_eq_true (by decide), decide_eq_true (by omega)]
        · rw [h, sg_zero, decide_eq_false (by decide), decide_eq_false (by omega)]
        · rw [sg_pos h, decide_eq_false (by decide), decide_eq_false (by omega)]
      · simp only [if_true]
        rcases Int.lt_trichotomy (-(N : Int) - -((M c * D : Nat) : Int)) 0 with h | h | h
        · rw [sg_neg h, decide_eq_false (by decide), decide_eq_false (by omega)]
        · rw [h, sg_zero, decide_eq_false (by decide), decide_eq_false (by omega)]
        · rw [sg_pos h, decide_eq_true (by decide), decide_eq_true (by omega)]

theorem radd_sem (s t : Bool) (a b : Nat) (up : Bool) (ha : a < 9218868437227405312) (hb : b < 9218868437227405312) (hT : val s a + val t b ≠ 0) :
    ∃ r, Dir (up != decide (val s a + val t b < 0)) (val s a + val t b).natAbs 1 r ∧
      ∀ w, Calls Try.prog 9 #[.float .f64 (W s a), .float .f64 (W t b), .bool up] w fun e w' => e = .returned (.float .f64 (W (decide (val s a + val t b < 0)) r)) ∧ Gr w w' := by
  obtain ⟨r, c, h1, h2, h3, h4⟩ := add_faithful s t a b ha hb
  rw [if_neg hT] at h4
  have hnear : Near (val s a + val t b).natAbs 1 (min c 9218868437227405312) := near_of_faithful (r := r) (by omega) (by rw [Nat.mul_one]; exact h1) (by rw [Nat.mul_one]; exact h2) (by rw [Nat.mul_one]; exact h3)
  have hr : 0 < r := by
    refine Nat.pos_of_ne_zero fun h0 => ?_
    subst h0
    rw [show 0 + 1 = 1 from rfl, M_one] at h2
    omega
  generalize hsg : decide (val s a + val t b < 0) = q at *
  have hTq : val s a + val t b = if q then -((val s a + val t b).natAbs : Int) else ((val s a + val t b).natAbs : Int) := by
    rw [← hsg]
    by_cases h : val s a + val t b < 0
    · rw [decide_eq_true h]; simp only [if_true]; omega
    · rw [decide_eq_false h]; simp only [Bool.false_eq_true, if_false]; omega
  obtain ⟨r', k1, k2⟩ := kT_side (val s a + val t b) _ 1 (min c 9218868437227405312) up (by omega) q hTq hnear
  refine ⟨r', k2, fun w => ?_⟩
  have hz : zeroB (W q (min c 9218868437227405312)) = false := by
    rw [zeroB_W _ _ (Nat.min_le_right ..)]
    exact decide_eq_false (by omega)
  have hcle : min c 9218868437227405312 ≤ 9218868437227405312 := Nat.min_le_right ..
  generalize min c 9218868437227405312 = c' at *
  have hea := ex_le ha
  have heb := ex_le hb
  have hba := bl_mant a
  have hbb := bl_mant b
  rw [← k1]
  refine radd_walk (W s a) (W t b) (W q c') _ up (kT (val s a + val t b) 1 q c') w s t (mant a) (mant b) ((ex a : Int) - 1074) ((ex b : Int) - 1074)
    (fun w1 neg ad n cap m g => Lim w1 ad n cap 18446744073709551616 m ∧ bl m ≤ 5000 ∧ -3000 ≤ g ∧ g ≤ 3000 ∧ 0 ≤ g + 1074 ∧ sv 1074 neg m g = val s a + val t b)
    (fun w => rfin42 s a w ha) (fun w => rfin42 t b w hb) (fun w => add_run w _ _ _ h4) hz (fun w1 => float41 s a w1 ha) (fun w1 => float41 t b w1 hb) ?_ ?_ (fun w1 => side38 q c' _ up w1 (by omega))
  · intro w1 a1 n1 c1 a2 n2 c2 l1 l2
    obtain ⟨neg, m, g, p1, p2, p3, p4⟩ := plus40 s t a1 a2 n1 n2 c1 c2 (mant a) (mant b) ((ex a : Int) - 1074) ((ex b : Int) - 1074) w1 l1 l2 (by omega) (by omega) (by omega) (by omega) (by omega) (by omega)
    have p5 := p1 1074 (by omega) (by omega)
    rw [val_sv s a 1074 (by omega), val_sv t b 1074 (by omega)] at p5
    refine (p4 w1 (Gr.refl w1)).mono ?_
    rintro r w' ⟨ad, n, cap, rfl, hl, hg⟩
    refine ⟨neg, ad, n, cap, m, g, rfl, ⟨hl, ?_, ?_, ?_, p5.1, ?_⟩, hg⟩
    · omega
    · omega
    · omega
    · rw [p5.2]; simp
  · intro w1 neg ad n cap m g hq
    have := rcomp39 neg ad n cap m g q c' w1 hq.1 (by omega) (by omega) (by omega) hcle 1074 (by omega) hq.2.2.2.2.1
    unfold kOf at this
    rw [hq.2.2.2.2.2, val_sv q c' 1074 (by omega)] at this
    unfold kT
    exact this
end Go.Proofs.Yteompnpfoplppaa
namespace Go.Proofs.Yteompnpfoplppaa
open Go.RowKit
open Ieee
set_option linter.unusedVariables false

theorem radd_nota (x y v : Nat) (up : Bool) (w w2 : World)
    (Fa : Hid (∀ w, Calls Try.prog 35 #[.float .f64 x] w fun e w' => e = .returned (.bool false) ∧ w' = w.drew))
    (hadd : (binOp .add 22 (.float .f64 x) (.float .f64 y)).run Try.prog w = .ok (.float .f64 v) w2) :
    Calls Try.prog 9 #[.float .f64 x, .float .f64 y, .bool up] w fun r w' => r = .returned (.float .f64 v) ∧ w' = w2.drew := by
  go_enter Try.func9, Try.ntmps9
  go_wp2_with (go_at_call 35; with_reducible refine (Fa.out _).mono ?_; rintro e w' ⟨rfl, rfl⟩)
  go_ret
  exact ⟨rfl, rfl⟩
theorem radd_notb (x y v : Nat) (up : Bool) (w w2 : World)
    (Fa : Hid (∀ w, Calls Try.prog 35 #[.float .f64 x] w fun e w' => e = .returned (.bool true) ∧ w' = w))
    (Fb : Hid (∀ w, Calls Try.prog 35 #[.float .f64 y] w fun e w' => e = .returned (.bool false) ∧ w' = w.drew))
    (hadd : (binOp .add 22 (.float .f64 x) (.float .f64 y)).run Try.prog w = .ok (.float .f64 v) w2) :
    Calls Try.prog 9 #[.float .f64 x, .float .f64 y, .bool up] w fun r w' => r = .returned (.float .f64 v) ∧ w' = w2.drew := by
  have tok : True := trivial
  go_enter Try.func9, Try.ntmps9
  go_wp2_with (first | (go_at_call 35; have _t := tok; with_reducible refine (Fa.out _).mono ?_; rintro e w' ⟨rfl, rfl⟩; clear tok) | (go_at_call 35; with_reducible refine (Fb.out _).mono ?_; rintro e w' ⟨rfl, rfl⟩))
  go_ret
  exact ⟨rfl, rfl⟩
/-- a sum of nought -/
theorem radd_zero (x y S : Nat) (up s t z : Bool) (w : World)
    (Fa : Hid (∀ w, Calls Try.prog 35 #[.float .f64 x] w fun e w' => e = .returned (.bool true) ∧ w' = w)) (Fb : Hid (∀ w, Calls Try.prog 35 #[.float .f64 y] w fun e w' => e = .returned (.bool true) ∧ w' = w))
    (Sa : Hid (∀ w, Calls Try.prog 36 #[.float .f64 x] w fun e w' => e = .returned (.bool s) ∧ w' = w)) (Sb : Hid (∀ w, Calls Try.prog 36 #[.float .f64 y] w fun e w' => e = .returned (.bool t) ∧ w' = w))
    (hadd : ∀ w, (binOp .add 22 (.float .f64 x) (.float .f64 y)).run Try.prog w = .ok (.float .f64 S) w) (hz : zeroB S = true) (hx : zeroB x = z) :
    Calls Try.prog 9 #[.float .f64 x, .float .f64 y, .bool up] w fun r w' => r = .returned (.float .f64 (if z && s == t then x else if up then 0 else 9223372036854775808)) ∧ w' = w := by
  unfold zeroB at hz hx
  cases z
  · cases up
    all_goals
      have tok : True := trivial
      go_enter Try.func9, Try.ntmps9
      go_wp2_with (first | (go_at_call 35; have _t := tok; with_reducible refine (Fa.out _).mono ?_; rintro e w' ⟨rfl, rfl⟩; clear tok) | (go_at_call 35; with_reducible refine (Fb.out _).mono ?_; rintro e w' ⟨rfl, rfl⟩) | (go_at_call 37; refine (copy44 _).mono ?_; rintro e w' ⟨rfl, rfl⟩))
      go_ret
      exact ⟨rfl, rfl⟩
  · cases s <;> cases t <;> cases up
    all_goals
      have tok : True := trivial
      have tok2 : True := trivial
      go_enter Try.func9, Try.ntmps9
      go_wp2_with (first | (go_at_call 35; have _t := tok; with_reducible refine (Fa.out _).mono ?_; rintro e w' ⟨rfl, rfl⟩; clear tok) | (go_at_call 35; with_reducible refine (Fb.out _).mono ?_; rintro e w' ⟨rfl, rfl⟩) | (go_at_call 36; have _t := tok2; with_reducible refine (Sa.out _).mono ?_; rintro e w' ⟨rfl, rfl⟩; clear tok2) | (go_at_call 36; with_reducible refine (Sb.out _).mono ?_; rintro e w' ⟨rfl, rfl⟩) | (go_at_call 37; refine (copy44 _).mono ?_; rintro e w' ⟨rfl, rfl⟩))
      go_ret
      exact ⟨by first | rfl | decide, rfl⟩

theorem radd_spec (s t : Bool) (a b : Nat) (up : Bool) (ha : a < 9223372036854775808) (hb : b < 9223372036854775808) :
    ∃ o, AddSpec s a t b up o ∧ ∀ w, Calls Try.prog 9 #[.float .f64 (W s a), .float .f64 (W t b), .bool up] w fun e w' => ∃ v, e = .returned (.float .f64 v) ∧ OkR o v ∧ Gr w w' := by
  by_cases hf : a < 9218868437227405312 ∧ b < 9218868437227405312
  · by_cases hT : val s a + val t b = 0
    · refine ⟨some (if s = t then W s a else W (!up) 0), by unfold AddSpec; rw [if_pos hf, if_pos hT], fun w => ?_⟩
      have h4 := add_exact s t a b 0 hf.1 hf.2 (by omega) (by rw [hT]; rfl)
      refine (radd_zero (W s a) (W t b) _ up s t _ w (fun w => rfin42 s a w hf.1) (fun w => rfin42 t b w hf.2) (fun w => sign43 s a w ha) (fun w => sign43 t b w hb) (fun w => add_run w _ _ _ h4) (by rw [zeroB_W _ _ (by omega)]; rfl) rfl).mono ?_
      rintro e w' ⟨rfl, rfl⟩
      refine ⟨_, rfl, ?_, Gr.refl _⟩
      show _ = _
      rw [zeroB_W s a (by omega)]
      by_cases hst : s = t
      · subst hst
        have hz : a = 0 := by
          have h1 : val s a + val s b = 0 := hT
          unfold val at h1
          refine Nat.eq_zero_of_not_pos fun hp => ?_
          have := M_pos hp
          cases s <;> simp at h1 <;> omega
        rw [decide_eq_true hz, if_pos rfl]; simp
      · rw [if_neg hst]
        have : (s == t) = false := by simpa using hst
        rw [this, Bool.and_false]
        cases up <;> rfl
    · obtain ⟨r, h1, h2⟩ := radd_sem s t a b up hf.1 hf.2 hT
      refine ⟨some (W (decide (val s a + val t b < 0)) r), by unfold AddSpec; rw [if_pos hf, if_neg hT]; exact ⟨r, rfl, h1⟩, fun w => ?_⟩
      refine (h2 w).mono ?_
      rintro e w' ⟨rfl, hg⟩
      exact ⟨_, rfl, rfl, hg⟩
  · refine ⟨double.add (W s a) (W t b), by unfold AddSpec; rw [if_neg hf], fun w => ?_⟩
    have run : ∃ v w2, (binOp .add 22 (.float .f64 (W s a)) (.float .f64 (W t b))).run Try.prog w = .ok (.float .f64 v) w2 ∧ OkR (double.add (W s a) (W t b)) v ∧ Gr w w2 := by
      cases ho : double.add (W s a) (W t b) with
      | some v => exact ⟨v, w, add_run w _ _ _ ho, rfl, Gr.refl _⟩
      | none =>
        obtain ⟨v, h1, h2⟩ := nan_drawn .add (by simp) 22 (W s a) (W t b) w ho
        exact ⟨v, _, h1, h2, (Gr.refl _).drew⟩
    obtain ⟨v, w2, hr, hok, hg⟩ := run
    by_cases hfa : a < 9218868437227405312
    · refine (radd_notb _ _ v up w w2 (fun w => rfin42 s a w hfa) (fun w => rfin42_not t b w hb (by omega)) hr).mono ?_
      rintro e w' ⟨rfl, rfl⟩
      exact ⟨v, rfl, hok, hg.drew⟩
    · refine (radd_nota _ _ v up w w2 (fun w => rfin42_not s a w ha (by omega)) hr).mono ?_
      rintro e w' ⟨rfl, rfl⟩
      exact ⟨v, rfl, hok, hg.drew⟩

theorem addSpec_unique {s t : Bool} {a b : Nat} {up : Bool} {o o' : Option Nat} (h : AddSpec s a t b up o) (h' : AddSpec s a t b up o') : o' = o := by
  unfold AddSpec at h h'
  split at h
  · rename_i hf
    rw [if_pos hf] at h'
    split at h
    · rename_i hz
      rw [if_pos hz] at h'
      rw [h, h']
    · rename_i hz
      rw [if_neg hz] at h'
      obtain ⟨r, rfl, h1⟩ := h
      obtain ⟨r', rfl, h2⟩ := h'
      rw [dir_unique (by omega) h1 h2]
  · rename_i hf
    rw [if_neg hf] at h'
    rw [h, h']

/-- a difference -/
theorem rsub11 (a b nb : Nat) (up : Bool) (w : World) (P : Nat → Prop) (hb : negN b = nb)
    (H : ∀ w, Calls Try.prog 9 #[.float .f64 a, .float .f64 nb, .bool up] w fun e w' => ∃ v, e = .returned (.float .f64 v) ∧ P v ∧ Gr w w') :
    Calls Try.prog 11 #[.float .f64 a, .float .f64 b, .bool up] w fun e w' => ∃ v, e = .returned (.float .f64 v) ∧ P v ∧ Gr w w' := by
  have hneg := neg_run b
  rw [hb] at hneg
  have HH : Hid (∀ w, Calls Try.prog 9 #[.float .f64 a, .float .f64 nb, .bool up] w fun e w' => ∃ v, e = .returned (.float .f64 v) ∧ P v ∧ Gr w w') := H
  clear H hb
  go_enter Try.func11, Try.ntmps11
  go_wp2_with (go_at_call 9; with_reducible refine (HH.out _).mono ?_; rintro e w' ⟨v, rfl, hv, hg⟩)
  go_ret
  exact ⟨v, rfl, hv, hg⟩
end Go.Proofs.Yteompnpfoplppaa
namespace Go.Proofs.Yteompnpfoplppaa
open Go.RowKit
open Ieee
set_option linter.unusedVariables false

theorem dirz0 (out : Bool) (D : Nat) (hD : 0 < D) : Dir out 0 D 0 := by
  unfold Dir
  cases out
  · exact ⟨by omega, by rw [M_zero]; omega, fun _ => Nat.mul_pos (M_pos (by omega)) hD⟩
  · exact ⟨by omega, fun _ => by omega, fun h => absurd h (by omega)⟩

theorem rmul_nota (x y v : Nat) (up : Bool) (w w2 : World) (Fa : Hid (∀ w, Calls Try.prog 35 #[.float .f64 x] w fun e w' => e = .returned (.bool false) ∧ w' = w.drew))
    (hop : (binOp .mul 22 (.float .f64 x) (.float .f64 y)).run Try.prog w = .ok (.float .f64 v) w2) :
    Calls Try.prog 13 #[.float .f64 x, .float .f64 y, .bool up] w fun r w' => r = .returned (.float .f64 v) ∧ w' = w2.drew := by
  go_enter Try.func13, Try.ntmps13
  go_wp2_with (go_at_call 35; with_reducible refine (Fa.out _).mono ?_; rintro e w' ⟨rfl, rfl⟩)
  go_ret
  exact ⟨rfl, rfl⟩
theorem rmul_notb (x y v : Nat) (up : Bool) (w w2 : World) (Fa : Hid (∀ w, Calls Try.prog 35 #[.float .f64 x] w fun e w' => e = .returned (.bool true) ∧ w' = w)) (Fb : Hid (∀ w, Calls Try.prog 35 #[.float .f64 y] w fun e w' => e = .returned (.bool false) ∧ w' = w.drew))
    (hop : (binOp .mul 22 (.float .f64 x) (.float .f64 y)).run Try.prog w = .ok (.float .f64 v) w2) :
    Calls Try.prog 13 #[.float .f64 x, .float .f64 y, .bool up] w fun r w' => r = .returned (.float .f64 v) ∧ w' = w2.drew := by
  have tok : True := trivial
  go_enter Try.func13, Try.ntmps13
  go_wp2_with (first | (go_at_call 35; have _t := tok; with_reducible refine (Fa.out _).mono ?_; rintro e w' ⟨rfl, rfl⟩; clear tok) | (go_at_call 35; with_reducible refine (Fb.out _).mono ?_; rintro e w' ⟨rfl, rfl⟩))
  go_ret
  exact ⟨rfl, rfl⟩
theorem rmul_zero (x y v : Nat) (up : Bool) (w w2 : World) (Fa : Hid (∀ w, Calls Try.prog 35 #[.float .f64 x] w fun e w' => e = .returned (.bool true) ∧ w' = w)) (Fb : Hid (∀ w, Calls Try.prog 35 #[.float .f64 y] w fun e w' => e = .returned (.bool true) ∧ w' = w)) (hz : zeroB x = true ∨ (zeroB x = false ∧ zeroB y = true))
    (hop : (binOp .mul 22 (.float .f64 x) (.float .f64 y)).run Try.prog w = .ok (.float .f64 v) w2) :
    Calls Try.prog 13 #[.float .f64 x, .float .f64 y, .bool up] w fun r w' => r = .returned (.float .f64 v) ∧ w' = w2 := by
  unfold zeroB at hz
  rcases hz with hz | ⟨hz, hz'⟩
  all_goals
    have tok : True := trivial
    go_enter Try.func13, Try.ntmps13
    go_wp2_with (first | (go_at_call 35; have _t := tok; with_reducible refine (Fa.out _).mono ?_; rintro e w' ⟨rfl, rfl⟩; clear tok) | (go_at_call 35; with_reducible refine (Fb.out _).mono ?_; rintro e w' ⟨rfl, rfl⟩))
    go_ret
    exact ⟨rfl, rfl⟩

theorem rdiv_nota (x y v : Nat) (up : Bool) (w w2 : World) (Fa : Hid (∀ w, Calls Try.prog 35 #[.float .f64 x] w fun e w' => e = .returned (.bool false) ∧ w' = w.drew))
    (hop : (binOp .quo 22 (.float .f64 x) (.float .f64 y)).run Try.prog w = .ok (.float .f64 v) w2) :
    Calls Try.prog 15 #[.float .f64 x, .float .f64 y, .bool up] w fun r w' => r = .returned (.float .f64 v) ∧ w' = w2.drew := by
  go_enter Try.func15, Try.ntmps15
  go_wp2_with (go_at_call 35; with_reducible refine (Fa.out _).mono ?_; rintro e w' ⟨rfl, rfl⟩)
  go_ret
  exact ⟨rfl, rfl⟩
theorem rdiv_notb (x y v : Nat) (up : Bool) (w w2 : World) (Fa : Hid (∀ w, Calls Try.prog 35 #[.float .f64 x] w fun e w' => e = .returned (.bool true) ∧ w' = w)) (Fb : Hid (∀ w, Calls Try.prog 35 #[.float .f64 y] w fun e w' => e = .returned (.bool false) ∧ w' = w.drew))
    (hop : (binOp .quo 22 (.float .f64 x) (.float .f64 y)).run Try.prog w = .ok (.float .f64 v) w2) :
    Calls Try.prog 15 #[.float .f64 x, .float .f64 y, .bool up] w fun r w' => r = .returned (.float .f64 v) ∧ w' = w2.drew := by
  have tok : True := trivial
  go_enter Try.func15, Try.ntmps15
  go_wp2_with (first | (go_at_call 35; have _t := tok; with_reducible refine (Fa.out _).mono ?_; rintro e w' ⟨rfl, rfl⟩; clear tok) | (go_at_call 35; with_reducible refine (Fb.out _).mono ?_; rintro e w' ⟨rfl, rfl⟩))
  go_ret
  exact ⟨rfl, rfl⟩
theorem rdiv_zero (x y v : Nat) (up : Bool) (w w2 : World) (Fa : Hid (∀ w, Calls Try.prog 35 #[.float .f64 x] w fun e w' => e = .returned (.bool true) ∧ w' = w)) (Fb : Hid (∀ w, Calls Try.prog 35 #[.float .f64 y] w fun e w' => e = .returned (.bool true) ∧ w' = w)) (hz : zeroB x = true ∨ (zeroB x = false ∧ zeroB y = true))
    (hop : (binOp .quo 22 (.float .f64 x) (.float .f64 y)).run Try.prog w = .ok (.float .f64 v) w2) :
    Calls Try.prog 15 #[.float .f64 x, .float .f64 y, .bool up] w fun r w' => r = .returned (.float .f64 v) ∧ w' = w2 := by
  unfold zeroB at hz
  rcases hz with hz | ⟨hz, hz'⟩
  all_goals
    have tok : True := trivial
    go_enter Try.func15, Try.ntmps15
    go_wp2_with (first | (go_at_call 35; have _t := tok; with_reducible refine (Fa.out _).mono ?_; rintro e w' ⟨rfl, rfl⟩; clear tok) | (go_at_call 35; with_reducible refine (Fb.out _).mono ?_; rintro e w' ⟨rfl, rfl⟩))
    go_ret
    exact ⟨rfl, rfl⟩

set_option maxHeartbeats 800000 in
theorem rmul_walk (x y S z : Nat) (up : Bool) (k : Int) (w : World) (s t : Bool) (mx my : Nat) (ex' ey : Int)
    (Fa : Hid (∀ w, Calls Try.prog 35 #[.float .f64 x] w fun e w' => e = .returned (.bool true) ∧ w' = w)) (Fb : Hid (∀ w, Calls Try.prog 35 #[.float .f64 y] w fun e w' => e = .returned (.bool true) ∧ w' = w))
    (hop : ∀ w, (binOp .mul 22 (.float .f64 x) (.float .f64 y)).run Try.prog w = .ok (.float .f64 S) w) (hzx : zeroB x = false) (hzy : zeroB y = false)
    (HX : Hid (∀ w1, Calls Try.prog 41 #[.float .f64 x] w1 fun res w' => ∃ ad n cap, res = .returned (.agg #[.bool s, .slice ad n cap, .int .i64 ex']) ∧ Lim w' ad n cap 18446744073709551616 mx ∧ Gr w1 w'))
    (HY : Hid (∀ w1, Calls Try.prog 41 #[.float .f64 y] w1 fun res w' => ∃ ad n cap, res = .returned (.agg #[.bool t, .slice ad n cap, .int .i64 ey]) ∧ Lim w' ad n cap 18446744073709551616 my ∧ Gr w1 w'))
    (HP : Hid (∀ w1 a1 n1 c1 a2 n2 c2, Lim w1 a1 n1 c1 18446744073709551616 mx → Lim w1 a2 n2 c2 18446744073709551616 my → Calls Try.prog 43 #[.agg #[.bool s, .slice a1 n1 c1, .int .i64 ex'], .agg #[.bool t, .slice a2 n2 c2, .int .i64 ey]] w1 fun r w' => ∃ ad n cap, r = .returned (.agg #[.bool (s != t), .slice ad n cap, .int .i64 (ex' + ey)]) ∧ Lim w' ad n cap 18446744073709551616 (mx * my) ∧ Gr w1 w'))
    (HC : Hid (∀ w1 ad n cap, Lim w1 ad n cap 18446744073709551616 (mx * my) → Calls Try.prog 39 #[.agg #[.bool (s != t), .slice ad n cap, .int .i64 (ex' + ey)], .float .f64 S] w1 fun r w' => r = .returned (.int .i64 k) ∧ Gr w1 w'))
    (HD : Hid (∀ w1, Calls Try.prog 38 #[.float .f64 S, .int .i64 k, .bool up] w1 fun r w' => r = .returned (.float .f64 z) ∧ w' = w1)) :
    Calls Try.prog 13 #[.float .f64 x, .float .f64 y, .bool up] w fun r w' => r = .returned (.float .f64 z) ∧ Gr w w' := by
  unfold zeroB at hzx hzy
  have tok : True := trivial
  have tok2 : True := trivial
  generalize (s != t) = st at *
  generalize (ex' + ey) = ee at *
  go_enter Try.func13, Try.ntmps13
  go_wp2_with (first | (go_at_call 35; have _t := tok; with_reducible refine (Fa.out _).mono ?_; rintro e w' ⟨rfl, rfl⟩; clear tok) | (go_at_call 35; with_reducible refine (Fb.out _).mono ?_; rintro e w' ⟨rfl, rfl⟩) | (go_at_call 41; have _t := tok2; with_reducible refine (HX.out _).mono ?_; rintro r w1 ⟨a1, n1, k1, rfl, hl1, g1⟩; clear tok2) | (go_at_call 41; with_reducible refine (HY.out _).mono ?_; rintro r w2 ⟨a2, n2, k2, rfl, hl2, g2⟩) | (go_at_call 43; refine (HP.out _ _ _ _ _ _ _ (hl1.gr g2) hl2).mono ?_; rintro r w3 ⟨a3, n3, k3, rfl, hl3, g3⟩) | (go_at_call 39; refine (HC.out _ _ _ _ hl3).mono ?_; rintro r w4 ⟨rfl, g4⟩) | (go_at_call 38; refine (HD.out _).mono ?_; rintro r w5 ⟨rfl, rfl⟩))
  go_ret
  exact ⟨rfl, ((g1.trans g2).trans g3).trans g4⟩

theorem bne_xor (s t : Bool) : (s != t) = (s ^^ t) := by cases s <;> cases t <;> rfl
theorem val_mul (s t : Bool) (a b : Nat) : val s a * val t b = if s ^^ t then -((M a * M b : Nat) : Int) else ((M a * M b : Nat) : Int) := by
  unfold val
  cases s <;> cases t <;> simp [Int.neg_mul, Int.mul_neg]
theorem bl_prod {a b : Nat} : bl (mant a * mant b) ≤ 106 := by
  refine bl_le_of_lt ?_
  have h1 := mant_lt a
  have h2 := mant_lt b
  have := Nat.mul_le_mul (show mant a ≤ 9007199254740991 by omega) (show mant b ≤ 9007199254740991 by omega)
  omega
theorem U_eq : (U : Int) = ((2 ^ E74 : Nat) : Int) := rfl

theorem rmul_sem (s t : Bool) (a b : Nat) (up : Bool) (ha : a < 9218868437227405312) (hb : b < 9218868437227405312) (ha0 : 0 < a) (hb0 : 0 < b) :
    ∃ r, Dir (up != (s ^^ t)) (M a * M b) U r ∧
      ∀ w, Calls Try.prog 13 #[.float .f64 (W s a), .float .f64 (W t b), .bool up] w fun e w' => e = .returned (.float .f64 (W (s ^^ t) r)) ∧ Gr w w' := by
  obtain ⟨r, c, h1, h2, h3, h4⟩ := mul_faithful s t a b ha hb
  have hnear : Near (M a * M b) U (min c 9218868437227405312) := near_of_faithful (r := r) U_pos h1 h2 h3
  obtain ⟨r', k1, k2⟩ := kT_side (val s a * val t b) _ U (min c 9218868437227405312) up U_pos (s ^^ t) (val_mul s t a b) hnear
  refine ⟨r', k2, fun w => ?_⟩
  have hcle : min c 9218868437227405312 ≤ 9218868437227405312 := Nat.min_le_right ..
  generalize min c 9218868437227405312 = c' at *
  have hea := ex_le ha
  have heb := ex_le hb
  have hba := bl_mant a
  have hbb := bl_mant b
  have hbp := bl_prod (a := a) (b := b)
  rw [← k1]
  refine rmul_walk (W s a) (W t b) (W (s ^^ t) c') _ up (kT (val s a * val t b) (U : Int) (s ^^ t) c') w s t (mant a) (mant b) ((ex a : Int) - 1074) ((ex b : Int) - 1074)
    (fun w => rfin42 s a w ha) (fun w => rfin42 t b w hb) (fun w => mul_run w _ _ _ h4) (by rw [zeroB_W s a (by omega)]; exact decide_eq_false (by omega)) (by rw [zeroB_W t b (by omega)]; exact decide_eq_false (by omega)) (fun w1 => float41 s a w1 ha) (fun w1 => float41 t b w1 hb)
    (fun w1 a1 n1 c1 a2 n2 c2 l1 l2 => times43 s t a1 a2 n1 n2 c1 c2 (mant a) (mant b) _ _ w1 l1 l2 (by omega) (by omega) (by omega) (by omega) (by omega) (by omega)) ?_ (fun w1 => side38 (s ^^ t) c' _ up w1 (by omega))
  intro w1 ad n cap hl
  have := rcomp39 (s != t) ad n cap (mant a * mant b) ((ex a : Int) - 1074 + ((ex b : Int) - 1074)) (s ^^ t) c' w1 hl (by omega) (by omega) (by omega) hcle (1074 + 1074) (by omega) (by omega)
  unfold kOf at this
  rw [sv_mul 1074 1074 s t _ _ _ _ (by omega) (by omega), val_sv s a 1074 (by omega), val_sv t b 1074 (by omega), val_sv (s ^^ t) c' (1074 + 1074) (by omega)] at this
  unfold kT
  rw [U_eq]
  have e0 : ((1074 : Int) - 1074).toNat = 0 := rfl
  have e1 : ((1074 : Int) + 1074 - 1074).toNat = E74 := rfl
  rw [e0, e1] at this
  simp only [Nat.pow_zero, Int.natCast_one, Int.mul_one] at this
  exact this

theorem rmul_spec (s t : Bool) (a b : Nat) (up : Bool) (ha : a < 9223372036854775808) (hb : b < 9223372036854775808) :
    ∃ o, MulSpec s a t b up o ∧ ∀ w, Calls Try.prog 13 #[.float .f64 (W s a), .float .f64 (W t b), .bool up] w fun e w' => ∃ v, e = .returned (.float .f64 v) ∧ OkR o v ∧ Gr w w' := by
  by_cases hf : a < 9218868437227405312 ∧ b < 9218868437227405312
  · by_cases h0 : 0 < a ∧ 0 < b
    · obtain ⟨r, h1, h2⟩ := rmul_sem s t a b up hf.1 hf.2 h0.1 h0.2
      refine ⟨some (W (s ^^ t) r), by unfold MulSpec; rw [if_pos hf]; exact ⟨r, rfl, h1⟩, fun w => ?_⟩
      refine (h2 w).mono ?_
      rintro e w' ⟨rfl, hg⟩
      exact ⟨_, rfl, rfl, hg⟩
    · have hz : M a * M b = 0 := by
        have : a = 0 ∨ b = 0 := by omega
        rcases this with rfl | rfl
        · rw [M_zero, Nat.zero_mul]
        · rw [M_zero, Nat.mul_zero]
      have hm := mul_exact s t a b 0 hf.1 hf.2 (by omega) (by rw [hz, M_zero, Nat.zero_mul])
      refine ⟨some (W (s ^^ t) 0), by unfold MulSpec; rw [if_pos hf]; exact ⟨0, rfl, by rw [hz]; exact dirz0 _ _ U_pos⟩, fun w => ?_⟩
      refine (rmul_zero _ _ _ up w w (fun w => rfin42 s a w hf.1) (fun w => rfin42 t b w hf.2) ?_ (mul_run w _ _ _ hm)).mono ?_
      · rw [zeroB_W s a (by omega), zeroB_W t b (by omega)]
        by_cases ha0 : a = 0
        · exact Or.inl (decide_eq_true ha0)
        · exact Or.inr ⟨decide_eq_false ha0, decide_eq_true (by omega)⟩
      · rintro e w' ⟨rfl, rfl⟩
        exact ⟨_, rfl, rfl, Gr.refl _⟩
  · refine ⟨double.mul (W s a) (W t b), by unfold MulSpec; rw [if_neg hf], fun w => ?_⟩
    have run : ∃ v w2, (binOp .mul 22 (.float .f64 (W s a)) (.float .f64 (W t b))).run Try.prog w = .ok (.float .f64 v) w2 ∧ OkR (double.mul (W s a) (W t b)) v ∧ Gr w w2 := by
      cases ho : double.mul (W s a) (W t b) with
      | some v => exact ⟨v, w, mul_run w _ _ _ ho, rfl, Gr.refl _⟩
      | none =>
        obtain ⟨v, h1, h2⟩ := nan_drawn .mul (by simp) 22 (W s a) (W t b) w ho
        exact ⟨v, _, h1, h2, (Gr.refl _).drew⟩
    obtain ⟨v, w2, hr, hok, hg⟩ := run
    by_cases hfa : a < 9218868437227405312
    · refine (rmul_notb _ _ v up w w2 (fun w => rfin42 s a w hfa) (fun w => rfin42_not t b w hb (by omega)) hr).mono ?_
      rintro e w' ⟨rfl, rfl⟩
      exact ⟨v, rfl, hok, hg.drew⟩
    · refine (rmul_nota _ _ v up w w2 (fun w => rfin42_not s a w ha (by omega)) hr).mono ?_
      rintro e w' ⟨rfl, rfl⟩
      exact ⟨v, rfl, hok, hg.drew⟩
theorem mulSpec_unique {s t : Bool} {a b : Nat} {up : Bool} {o o' : Option Nat} (h : MulSpec s a t b up o) (h' : MulSpec s a t b up o') : o' = o := by
  unfold MulSpec at h h'
  split at h
  · rename_i hf
    rw [if_pos hf] at h'
    obtain ⟨r, rfl, h1⟩ := h
    obtain ⟨r', rfl, h2⟩ := h'
    rw [dir_unique U_pos h1 h2]
  · rename_i hf
    rw [if_neg hf] at h'
    rw [h, h']
end Go.Proofs.Yteompnpfoplppaa
namespace Go.Proofs.Yteompnpfoplppaa
open Go.RowKit
open Ieee
set_option linter.unusedVariables false

set_option maxHeartbeats 800000 in
theorem rdiv_inf (x y q z : Nat) (up p : Bool) (k : Int) (w : World) (Fa : Hid (∀ w, Calls Try.prog 35 #[.float .f64 x] w fun e w' => e = .returned (.bool true) ∧ w' = w)) (Fb : Hid (∀ w, Calls Try.prog 35 #[.float .f64 y] w fun e w' => e = .returned (.bool true) ∧ w' = w)) (Fq : Hid (∀ w, Calls Try.prog 35 #[.float .f64 q] w fun e w' => e = .returned (.bool false) ∧ w' = w.drew))
    (hop : ∀ w, (binOp .quo 22 (.float .f64 x) (.float .f64 y)).run Try.prog w = .ok (.float .f64 q) w) (hzx : zeroB x = false) (hzy : zeroB y = false) (hp : posB q = p) (hk : k = if p then -1 else 1)
    (HD : Hid (∀ w1, Calls Try.prog 38 #[.float .f64 q, .int .i64 k, .bool up] w1 fun r w' => r = .returned (.float .f64 z) ∧ w' = w1)) :
    Calls Try.prog 15 #[.float .f64 x, .float .f64 y, .bool up] w fun r w' => r = .returned (.float .f64 z) ∧ Gr w w' := by
  subst hk
  unfold zeroB at hzx hzy
  unfold posB at hp
  cases p
  all_goals
    have tok : True := trivial
    have tok1 : True := trivial
    simp only [Bool.false_eq_true, if_false, if_true] at HD
    go_enter Try.func15, Try.ntmps15
    go_wp2_with (first | (go_at_call 35; have _t := tok; with_reducible refine (Fa.out _).mono ?_; rintro e w' ⟨rfl, rfl⟩; clear tok) | (go_at_call 35; have _t := tok1; with_reducible refine (Fb.out _).mono ?_; rintro e w' ⟨rfl, rfl⟩; clear tok1) | (go_at_call 35; with_reducible refine (Fq.out _).mono ?_; rintro e w' ⟨rfl, rfl⟩) | (go_at_call 38; refine (HD.out _).mono ?_; rintro r w5 ⟨rfl, rfl⟩))
    go_ret
    exact ⟨rfl, (Gr.refl _).drew⟩

set_option maxHeartbeats 1600000 in
theorem rdiv_walk (x y q z : Nat) (up p : Bool) (k0 k : Int) (w : World) (s t u : Bool) (mx my mq : Nat) (ex' ey eq : Int) (Fa : Hid (∀ w, Calls Try.prog 35 #[.float .f64 x] w fun e w' => e = .returned (.bool true) ∧ w' = w)) (Fb : Hid (∀ w, Calls Try.prog 35 #[.float .f64 y] w fun e w' => e = .returned (.bool true) ∧ w' = w)) (Fq : Hid (∀ w, Calls Try.prog 35 #[.float .f64 q] w fun e w' => e = .returned (.bool true) ∧ w' = w))
    (hop : ∀ w, (binOp .quo 22 (.float .f64 x) (.float .f64 y)).run Try.prog w = .ok (.float .f64 q) w) (hzx : zeroB x = false) (hzy : zeroB y = false) (hp : negB y = p) (hk : k = if p then -k0 else k0) (kl : -1 ≤ k0) (kh : k0 ≤ 1)
    (HX : Hid (∀ w1, Calls Try.prog 41 #[.float .f64 x] w1 fun res w' => ∃ ad n cap, res = .returned (.agg #[.bool s, .slice ad n cap, .int .i64 ex']) ∧ Lim w' ad n cap 18446744073709551616 mx ∧ Gr w1 w'))
    (HQ : Hid (∀ w1, Calls Try.prog 41 #[.float .f64 q] w1 fun res w' => ∃ ad n cap, res = .returned (.agg #[.bool u, .slice ad n cap, .int .i64 eq]) ∧ Lim w' ad n cap 18446744073709551616 mq ∧ Gr w1 w'))
    (HY : Hid (∀ w1, Calls Try.prog 41 #[.float .f64 y] w1 fun res w' => ∃ ad n cap, res = .returned (.agg #[.bool t, .slice ad n cap, .int .i64 ey]) ∧ Lim w' ad n cap 18446744073709551616 my ∧ Gr w1 w'))
    (HP : Hid (∀ w1 a1 n1 c1 a2 n2 c2, Lim w1 a1 n1 c1 18446744073709551616 mq → Lim w1 a2 n2 c2 18446744073709551616 my → Calls Try.prog 43 #[.agg #[.bool u, .slice a1 n1 c1, .int .i64 eq], .agg #[.bool t, .slice a2 n2 c2, .int .i64 ey]] w1 fun r w' => ∃ ad n cap, r = .returned (.agg #[.bool (u != t), .slice ad n cap, .int .i64 (eq + ey)]) ∧ Lim w' ad n cap 18446744073709551616 (mq * my) ∧ Gr w1 w'))
    (HC : Hid (∀ w1 a1 n1 c1 ad n cap, Lim w1 a1 n1 c1 18446744073709551616 mx → Lim w1 ad n cap 18446744073709551616 (mq * my) → Calls Try.prog 45 #[.agg #[.bool s, .slice a1 n1 c1, .int .i64 ex'], .agg #[.bool (u != t), .slice ad n cap, .int .i64 (eq + ey)]] w1 fun r w' => r = .returned (.int .i64 k0) ∧ Gr w1 w'))
    (HD : Hid (∀ w1, Calls Try.prog 38 #[.float .f64 q, .int .i64 k, .bool up] w1 fun r w' => r = .returned (.float .f64 z) ∧ w' = w1)) :
    Calls Try.prog 15 #[.float .f64 x, .float .f64 y, .bool up] w fun r w' => r = .returned (.float .f64 z) ∧ Gr w w' := by
  subst hk
  unfold zeroB at hzx hzy
  unfold negB at hp
  generalize (u != t) = ut at *
  generalize (eq + ey) = ee at *
  cases p
  all_goals
    have tok : True := trivial
    have tok1 : True := trivial
    have tok2 : True := trivial
    have tok3 : True := trivial
    simp only [Bool.false_eq_true, if_false, if_true] at HD
    go_enter Try.func15, Try.ntmps15
    go_wp2_with (first | (go_at_call 35; have _t := tok; with_reducible refine (Fa.out _).mono ?_; rintro e w' ⟨rfl, rfl⟩; clear tok) | (go_at_call 35; have _t := tok1; with_reducible refine (Fb.out _).mono ?_; rintro e w' ⟨rfl, rfl⟩; clear tok1) | (go_at_call 35; with_reducible refine (Fq.out _).mono ?_; rintro e w' ⟨rfl, rfl⟩) | (go_at_call 41; have _t := tok2; with_reducible refine (HX.out _).mono ?_; rintro r w1 ⟨a1, n1, k1, rfl, hl1, g1⟩; clear tok2) | (go_at_call 41; have _t := tok3; with_reducible refine (HQ.out _).mono ?_; rintro r w2 ⟨a2, n2, k2, rfl, hl2, g2⟩; clear tok3) | (go_at_call 41; with_reducible refine (HY.out _).mono ?_; rintro r w3 ⟨a3, n3, k3, rfl, hl3, g3⟩) | (go_at_call 43; refine (HP.out _ _ _ _ _ _ _ (hl2.gr g3) hl3).mono ?_; rintro r w4 ⟨a4, n4, k4, rfl, hl4, g4⟩) | (go_at_call 45; refine (HC.out _ _ _ _ _ _ _ (hl1.gr ((g2.trans g3).trans g4)) hl4).mono ?_; rintro r w5 ⟨rfl, g5⟩) | (go_at_call 38; refine (HD.out _).mono ?_; rintro r w6 ⟨rfl, rfl⟩))
    go_ret
    exact ⟨rfl, (((g1.trans g2).trans g3).trans g4).trans g5⟩

theorem sg_range (x : Int) : -1 ≤ sg x ∧ sg x ≤ 1 := by
  rcases Int.lt_trichotomy x 0 with h | h | h
  · rw [sg_neg h]; omega
  · subst h; rw [sg_zero]; omega
  · rw [sg_pos h]; omega
theorem val_U (s : Bool) (a : Nat) : val s a * (U : Int) = if s then -((M a * U : Nat) : Int) else ((M a * U : Nat) : Int) := by
  unfold val; cases s <;> simp [Int.neg_mul]
theorem val_M (u t : Bool) (c b : Nat) : val u c * val t b = if t then -(val u c * (M b : Int)) else val u c * (M b : Int) := by
  unfold val; cases t <;> simp [Int.mul_neg]

theorem rdiv_sem (s t : Bool) (a b : Nat) (up : Bool) (ha : a < 9218868437227405312) (hb : b < 9218868437227405312) (ha0 : 0 < a) (hb0 : 0 < b) :
    ∃ r, Dir (up != (s ^^ t)) (M a * U) (M b) r ∧
      ∀ w, Calls Try.prog 15 #[.float .f64 (W s a), .float .f64 (W t b), .bool up] w fun e w' => e = .returned (.float .f64 (W (s ^^ t) r)) ∧ Gr w w' := by
  obtain ⟨r, c, h1, h2, h3, h4⟩ := div_faithful s t a b ha hb hb0
  have hMb := M_pos hb0
  have hnear : Near (M a * U) (M b) (min c 9218868437227405312) := near_of_faithful (r := r) hMb h1 h2 h3
  obtain ⟨r', k1, k2⟩ := kT_side (if s ^^ t then -((M a * U : Nat) : Int) else ((M a * U : Nat) : Int)) _ (M b) (min c 9218868437227405312) up hMb (s ^^ t) rfl hnear
  refine ⟨r', k2, fun w => ?_⟩
  have hcle : min c 9218868437227405312 ≤ 9218868437227405312 := Nat.min_le_right ..
  generalize min c 9218868437227405312 = c' at *
  have hzx : zeroB (W s a) = false := by rw [zeroB_W s a (by omega)]; exact decide_eq_false (by omega)
  have hzy : zeroB (W t b) = false := by rw [zeroB_W t b (by omega)]; exact decide_eq_false (by omega)
  rw [← k1]
  by_cases hi : c' = 9218868437227405312
  · refine rdiv_inf (W s a) (W t b) (W (s ^^ t) c') _ up _ _ w (fun w => rfin42 s a w ha) (fun w => rfin42 t b w hb) (fun w => rfin42_not _ c' w (by omega) (by omega)) (fun w => div_run w _ _ _ h4) hzx hzy rfl ?_ (fun w1 => side38 (s ^^ t) c' _ up w1 (by omega))
    rw [posB_W _ _ hcle]
    unfold kT
    rw [if_pos hi, decide_eq_true (by omega), Bool.and_true]
    generalize (s ^^ t) = st
    cases st <;> rfl
  · have hea := ex_le ha
    have heb := ex_le hb
    have hec := ex_le (r := c') (by omega)
    have hba := bl_mant a
    have hbb := bl_mant b
    have hbc := bl_mant c'
    have hbp := bl_prod (a := c') (b := b)
    have hneg : negB (W t b) = t := by
      rw [negB_W t b (by omega), decide_eq_true (by omega)]; simp
    have hrange := sg_range (val s a * (U : Int) - val (s ^^ t) c' * val t b)
    refine rdiv_walk (W s a) (W t b) (W (s ^^ t) c') _ up t (sg (val s a * (U : Int) - val (s ^^ t) c' * val t b)) _ w s t (s ^^ t) (mant a) (mant b) (mant c') ((ex a : Int) - 1074) ((ex b : Int) - 1074) ((ex c' : Int) - 1074)
      (fun w => rfin42 s a w ha) (fun w => rfin42 t b w hb) (fun w => rfin42 _ c' w (by omega)) (fun w => div_run w _ _ _ h4) hzx hzy hneg ?_ hrange.1 hrange.2 (fun w1 => float41 s a w1 ha) (fun w1 => float41 _ c' w1 (by omega)) (fun w1 => float41 t b w1 hb)
      (fun w1 a1 n1 c1 a2 n2 c2 l1 l2 => times43 (s ^^ t) t a1 a2 n1 n2 c1 c2 (mant c') (mant b) _ _ w1 l1 l2 (by omega) (by omega) (by omega) (by omega) (by omega) (by omega)) ?_ (fun w1 => side38 (s ^^ t) c' _ up w1 (by omega))
    · unfold kT
      rw [if_neg hi, val_U, val_M]
      generalize ((M a * U : Nat) : Int) = N
      generalize val (s ^^ t) c' * (M b : Int) = X
      cases s <;> cases t <;> simp only [Bool.false_xor, Bool.true_xor, Bool.not_true, Bool.not_false, Bool.false_eq_true, if_false, if_true]
      · rw [← sg_flip]; exact congrArg sg (by omega)
      · rw [← sg_flip]; exact congrArg sg (by omega)
    · intro w1 a1 n1 c1 ad n cap l1 l2
      have := compare45 s ((s ^^ t) != t) a1 ad n1 n c1 cap (mant a) (mant c' * mant b) ((ex a : Int) - 1074) ((ex c' : Int) - 1074 + ((ex b : Int) - 1074)) w1 l1 l2 (by omega) (by omega) (by omega) (by omega) (by omega) (by omega) (1074 + 1074) (by omega) (by omega)
      rw [sv_mul 1074 1074 (s ^^ t) t _ _ _ _ (by omega) (by omega), val_sv (s ^^ t) c' 1074 (by omega), val_sv t b 1074 (by omega), val_sv s a (1074 + 1074) (by omega)] at this
      have e0 : ((1074 : Int) - 1074).toNat = 0 := rfl
      have e1 : ((1074 : Int) + 1074 - 1074).toNat = E74 := rfl
      rw [e0, e1] at this
      simp only [Nat.pow_zero, Int.natCast_one, Int.mul_one] at this
      rw [U_eq]
      exact this

theorem rdiv_spec (s t : Bool) (a b : Nat) (up : Bool) (ha : a < 9223372036854775808) (hb : b < 9223372036854775808) :
    ∃ o, DivSpec s a t b up o ∧ ∀ w, Calls Try.prog 15 #[.float .f64 (W s a), .float .f64 (W t b), .bool up] w fun e w' => ∃ v, e = .returned (.float .f64 v) ∧ OkR o v ∧ Gr w w' := by
  by_cases hf : a < 9218868437227405312 ∧ b < 9218868437227405312 ∧ 0 < b
  · by_cases h0 : 0 < a
    · obtain ⟨r, h1, h2⟩ := rdiv_sem s t a b up hf.1 hf.2.1 h0 hf.2.2
      refine ⟨some (W (s ^^ t) r), by unfold DivSpec; rw [if_pos hf]; exact ⟨r, rfl, h1⟩, fun w => ?_⟩
      refine (h2 w).mono ?_
      rintro e w' ⟨rfl, hg⟩
      exact ⟨_, rfl, rfl, hg⟩
    · have ha0 : a = 0 := by omega
      obtain ⟨r, c, h1, h2, h3, h4⟩ := div_faithful s t a b hf.1 hf.2.1 hf.2.2
      have hz : M a * U = 0 := by rw [ha0, M_zero, Nat.zero_mul]
      have hc : min c 9218868437227405312 = 0 := by
        rw [hz] at h1 h3
        have hMb := M_pos hf.2.2
        have hr : r = 0 := by
          refine Nat.eq_zero_of_not_pos fun hp => ?_
          have := Nat.mul_pos (M_pos hp) hMb
          omega
        subst hr
        rcases h3 with h | ⟨_, h⟩
        · omega
        · rw [M_zero, Nat.zero_mul] at h; exact absurd rfl h
      rw [hc] at h4
      refine ⟨some (W (s ^^ t) 0), by unfold DivSpec; rw [if_pos hf]; exact ⟨0, rfl, by rw [hz]; exact dirz0 _ _ (M_pos hf.2.2)⟩, fun w => ?_⟩
      refine (rdiv_zero _ _ _ up w w (fun w => rfin42 s a w hf.1) (fun w => rfin42 t b w hf.2.1) (Or.inl (by rw [zeroB_W s a (by omega)]; exact decide_eq_true ha0)) (div_run w _ _ _ h4)).mono ?_
      rintro e w' ⟨rfl, rfl⟩
      exact ⟨_, rfl, rfl, Gr.refl _⟩
  · refine ⟨double.div (W s a) (W t b), by unfold DivSpec; rw [if_neg hf], fun w => ?_⟩
    have run : ∃ v w2, (binOp .quo 22 (.float .f64 (W s a)) (.float .f64 (W t b))).run Try.prog w = .ok (.float .f64 v) w2 ∧ OkR (double.div (W s a) (W t b)) v ∧ Gr w w2 := by
      cases ho : double.div (W s a) (W t b) with
      | some v => exact ⟨v, w, div_run w _ _ _ ho, rfl, Gr.refl _⟩
      | none =>
        obtain ⟨v, h1, h2⟩ := nan_drawn .quo (by simp) 22 (W s a) (W t b) w ho
        exact ⟨v, _, h1, h2, (Gr.refl _).drew⟩
    obtain ⟨v, w2, hr, hok, hg⟩ := run
    by_cases hfa : a < 9218868437227405312
    · by_cases hfb : b < 9218868437227405312
      · refine (rdiv_zero _ _ v up w w2 (fun w => rfin42 s a w hfa) (fun w => rfin42 t b w hfb) ?_ hr).mono ?_
        · rw [zeroB_W s a (by omega), zeroB_W t b (by omega)]
          by_cases ha0 : a = 0
          · exact Or.inl (decide_eq_true ha0)
          · exact Or.inr ⟨decide_eq_false ha0, decide_eq_true (by omega)⟩
        · rintro e w' ⟨rfl, rfl⟩
          exact ⟨v, rfl, hok, hg⟩
      · refine (rdiv_notb _ _ v up w w2 (fun w => rfin42 s a w hfa) (fun w => rfin42_not t b w hb (by omega)) hr).mono ?_
        rintro e w' ⟨rfl, rfl⟩
        exact ⟨v, rfl, hok, hg.drew⟩
    · refine (rdiv_nota _ _ v up w w2 (fun w => rfin42_not s a w ha (by omega)) hr).mono ?_
      rintro e w' ⟨rfl, rfl⟩
      exact ⟨v, rfl, hok, hg.drew⟩
theorem divSpec_unique {s t : Bool} {a b : Nat} {up : Bool} {o o' : Option Nat} (h : DivSpec s a t b up o) (h' : DivSpec s a t b up o') : o' = o := by
  unfold DivSpec at h h'
  split at h
  · rename_i hf
    rw [if_pos hf] at h'
    obtain ⟨r, rfl, h1⟩ := h
    obtain ⟨r', rfl, h2⟩ := h'
    rw [dir_unique (M_pos hf.2.2) h1 h2]
  · rename_i hf
    rw [if_neg hf] at h'
    rw [h, h']
end Go.Proofs.Yteompnpfoplppaa
namespace Go.Proofs.Yteompnpfoplppaa
open Go.RowKit
open Ieee
set_option linter.unusedVariables false

theorem rsqrt_nota (x v : Nat) (up : Bool) (w w2 : World) (Fa : Hid (∀ w, Calls Try.prog 35 #[.float .f64 x] w fun e w' => e = .returned (.bool false) ∧ w' = w.drew))
    (HR : Hid (Calls Try.prog 46 #[.float .f64 x] w fun e w' => e = .returned (.float .f64 v) ∧ w' = w2)) :
    Calls Try.prog 17 #[.float .f64 x, .bool up] w fun r w' => r = .returned (.float .f64 v) ∧ w' = w2.drew := by
  go_enter Try.func17, Try.ntmps17
  go_wp2_with (first | (go_at_call 46; with_reducible refine HR.out.mono ?_; rintro e w' ⟨rfl, rfl⟩) | (go_at_call 35; with_reducible refine (Fa.out _).mono ?_; rintro e w' ⟨rfl, rfl⟩))
  go_ret
  exact ⟨rfl, rfl⟩
theorem rsqrt_le (x v : Nat) (up : Bool) (w w2 : World) (Fa : Hid (∀ w, Calls Try.prog 35 #[.float .f64 x] w fun e w' => e = .returned (.bool true) ∧ w' = w)) (hle : negB x = true ∨ (negB x = false ∧ zeroB x = true))
    (HR : Hid (Calls Try.prog 46 #[.float .f64 x] w fun e w' => e = .returned (.float .f64 v) ∧ w' = w2)) :
    Calls Try.prog 17 #[.float .f64 x, .bool up] w fun r w' => r = .returned (.float .f64 v) ∧ w' = w2 := by
  unfold negB zeroB at hle
  rcases hle with h | ⟨h, h'⟩
  all_goals
    go_enter Try.func17, Try.ntmps17
    go_wp2_with (first | (go_at_call 46; with_reducible refine HR.out.mono ?_; rintro e w' ⟨rfl, rfl⟩) | (go_at_call 35; with_reducible refine (Fa.out _).mono ?_; rintro e w' ⟨rfl, rfl⟩))
    go_ret
    exact ⟨rfl, rfl⟩

set_option maxHeartbeats 1600000 in
theorem rsqrt_walk (x q z : Nat) (up : Bool) (k : Int) (w : World) (s u : Bool) (mx mq : Nat) (ex' eq : Int) (Fa : Hid (∀ w, Calls Try.prog 35 #[.float .f64 x] w fun e w' => e = .returned (.bool true) ∧ w' = w)) (h : negB x = false) (h' : zeroB x = false)
    (HR : Hid (Calls Try.prog 46 #[.float .f64 x] w fun e w' => e = .returned (.float .f64 q) ∧ w' = w))
    (HX : Hid (∀ w1, Calls Try.prog 41 #[.float .f64 x] w1 fun res w' => ∃ ad n cap, res = .returned (.agg #[.bool s, .slice ad n cap, .int .i64 ex']) ∧ Lim w' ad n cap 18446744073709551616 mx ∧ Gr w1 w'))
    (HQ : Hid (∀ w1, Calls Try.prog 41 #[.float .f64 q] w1 fun res w' => ∃ ad n cap, res = .returned (.agg #[.bool u, .slice ad n cap, .int .i64 eq]) ∧ Lim w' ad n cap 18446744073709551616 mq ∧ Gr w1 w'))
    (HP : Hid (∀ w1 a1 n1 c1, Lim w1 a1 n1 c1 18446744073709551616 mq → Calls Try.prog 43 #[.agg #[.bool u, .slice a1 n1 c1, .int .i64 eq], .agg #[.bool u, .slice a1 n1 c1, .int .i64 eq]] w1 fun r w' => ∃ ad n cap, r = .returned (.agg #[.bool (u != u), .slice ad n cap, .int .i64 (eq + eq)]) ∧ Lim w' ad n cap 18446744073709551616 (mq * mq) ∧ Gr w1 w'))
    (HC : Hid (∀ w1 a1 n1 c1 ad n cap, Lim w1 a1 n1 c1 18446744073709551616 mx → Lim w1 ad n cap 18446744073709551616 (mq * mq) → Calls Try.prog 45 #[.agg #[.bool s, .slice a1 n1 c1, .int .i64 ex'], .agg #[.bool (u != u), .slice ad n cap, .int .i64 (eq + eq)]] w1 fun r w' => r = .returned (.int .i64 k) ∧ Gr w1 w'))
    (HD : Hid (∀ w1, Calls Try.prog 38 #[.float .f64 q, .int .i64 k, .bool up] w1 fun r w' => r = .returned (.float .f64 z) ∧ w' = w1)) :
    Calls Try.prog 17 #[.float .f64 x, .bool up] w fun r w' => r = .returned (.float .f64 z) ∧ Gr w w' := by
  unfold negB at h
  unfold zeroB at h'
  generalize (u != u) = uu at *
  generalize (eq + eq) = ee at *
  go_enter Try.func17, Try.ntmps17
  go_wp2_with (first | (go_at_call 46; with_reducible refine HR.out.mono ?_; rintro e w' ⟨rfl, rfl⟩) | (go_at_call 35; with_reducible refine (Fa.out _).mono ?_; rintro e w' ⟨rfl, rfl⟩) | (go_at_call 41; with_reducible refine (HQ.out _).mono ?_; rintro r w1 ⟨a1, n1, k1, rfl, hl1, g1⟩))
  obtain ⟨W0, hW0⟩ : ∃ W0, W0 = w1.alloc (.cells #[.bool u, .slice a1 n1 k1, .int .i64 eq] 51) := ⟨_, rfl⟩
  rw [← hW0]
  have hS0 : (W0.drew.cell? ⟨w1.heap.size, 0, none⟩ = some (.bool u) ∧ W0.drew.cell? ⟨w1.heap.size, 1, none⟩ = some (.slice a1 n1 k1) ∧ W0.drew.cell? ⟨w1.heap.size, 2, none⟩ = some (.int .i64 eq)) ∧ Gr w1 W0.drew := by
    have hb : W0.drew.heap[w1.heap.size]? = some (.cells #[.bool u, .slice a1 n1 k1, .int .i64 eq] 51) := by
      show W0.heap[w1.heap.size]? = _
      rw [hW0]; exact heap_alloc_new w1 _
    exact ⟨(num_block hb).1, hW0 ▸ ((Gr.refl w1).alloc _).drew⟩
  clear hW0
  go_region_held3 (fun w' => (w'.cell? ⟨w1.heap.size, 0, none⟩ = some (.bool u) ∧ w'.cell? ⟨w1.heap.size, 1, none⟩ = some (.slice a1 n1 k1) ∧ w'.cell? ⟨w1.heap.size, 2, none⟩ = some (.int .i64 eq)) ∧ Gr w1 w') (first | (with_reducible assumption) | (apply keep1; (with_reducible assumption); (with_reducible assumption)) | (apply keep1; (exact Gr.refl _); (with_reducible assumption))) (first | (go_at_call 41; refine (HX.out _).mono ?_; rintro r w2 ⟨a2, n2, k2, rfl, hl2, g2⟩) | (go_at_call 43; refine (HP.out _ _ _ _ (hl1.gr (And.right ‹_ ∧ Gr w1 _›))).mono ?_; rintro r w3 ⟨a3, n3, k3, rfl, hl3, g3⟩) | (go_at_call 45; refine (HC.out _ _ _ _ _ _ _ (hl2.gr g3) hl3).mono ?_; rintro r w4 ⟨rfl, g4⟩) | (go_at_call 38; refine (HD.out _).mono ?_; rintro r w5 ⟨rfl, rfl⟩))
  have hS4 := keep1 ((g2.trans g3).trans g4) hS0
  go_wp2
  go_ret
  exact ⟨rfl, g1.trans hS4.2⟩

theorem sg_dec_pos (N C : Nat) : decide (0 < sg ((N : Int) - (C : Int))) = decide (C < N) := by
  rcases Nat.lt_trichotomy C N with h | h | h
  · rw [sg_pos (by omega), decide_eq_true h]; rfl
  · rw [show (N : Int) - (C : Int) = 0 by omega, decide_eq_false (show ¬ C < N by omega)]; rfl
  · rw [sg_neg (by omega), decide_eq_false (show ¬ C < N by omega)]; rfl
theorem sg_dec_neg (N C : Nat) : decide (sg ((N : Int) - (C : Int)) < 0) = decide (N < C) := by
  rcases Nat.lt_trichotomy C N with h | h | h
  · rw [sg_pos (by omega), decide_eq_false (show ¬ N < C by omega)]; rfl
  · rw [show (N : Int) - (C : Int) = 0 by omega, decide_eq_false (show ¬ N < C by omega)]; rfl
  · rw [sg_neg (by omega), decide_eq_true h]; rfl
theorem rsqrt_sem (a : Nat) (up : Bool) (ha : a < 9218868437227405312) (ha0 : 0 < a) :
    ∃ r, Dir up (rootN (M a * U)) 2 r ∧ ∀ w, Calls Try.prog 17 #[.float .f64 (W false a), .bool up] w fun e w' => e = .returned (.float .f64 (W false r)) ∧ Gr w w' := by
  obtain ⟨r, c, h1, h2, h3, h4⟩ := sqrt_faithful a ha ha0
  have hna : negB (W false a) = false := by rw [negB_W false a (by omega)]; rfl
  have hza : zeroB (W false a) = false := by rw [zeroB_W false a (by omega)]; exact decide_eq_false (by omega)
  have hnear : Near (rootN (M a * U)) 2 (min c 9218868437227405312) := near_of_faithful (r := r) (by omega) h1 h2 h3
  have hcI := root_small ha hnear
  generalize min c 9218868437227405312 = c' at *
  have hea := ex_le ha
  have hec := ex_le hcI
  have hba := bl_mant a
  have hbc := bl_mant c'
  have hbp := bl_prod (a := c') (b := c')
  obtain ⟨r', k1, k2⟩ := side_ok false (rootN (M a * U)) 2 c' (offK (sg (((M a * U : Nat) : Int) - ((M c' * M c' : Nat) : Int)))) up (by omega) hnear
    (by
      simp only [Bool.false_eq_true, if_false]
      rw [offK_pos, sg_dec_pos, decide_eq_decide]
      have e := root_lt_iff (M c') (M a * U)
      exact ⟨fun h => ⟨hcI, e.2 h⟩, fun h => e.1 h.2⟩)
    (by
      simp only [Bool.false_eq_true, if_false]
      rw [offK_neg, sg_dec_neg, decide_eq_decide]
      have e := lt_root_iff (M c') (M a * U)
      exact ⟨fun h => Or.inr (e.2 h), fun h => h.elim (fun g => absurd g (by omega)) e.1⟩)
  rw [Bool.bne_false] at k2
  refine ⟨r', k2, fun w => ?_⟩
  rw [← k1]
  refine rsqrt_walk (W false a) (W false c') _ up (sg (((M a * U : Nat) : Int) - ((M c' * M c' : Nat) : Int))) w false false (mant a) (mant c') ((ex a : Int) - 1074) ((ex c' : Int) - 1074) (fun w => rfin42 false a w ha) hna hza (sqrt53 _ _ w w (sqrt75 _ _ w h4)) (fun w1 => float41 false a w1 ha) (fun w1 => float41 false c' w1 hcI)
    (fun w1 a1 n1 c1 l1 => times43 false false a1 a1 n1 n1 c1 c1 (mant c') (mant c') _ _ w1 l1 l1 (by omega) (by omega) (by omega) (by omega) (by omega) (by omega)) ?_ (fun w1 => side38 false c' _ up w1 (by omega))
  intro w1 a1 n1 c1 ad n cap l1 l2
  have := compare45 false (false != false) a1 ad n1 n c1 cap (mant a) (mant c' * mant c') ((ex a : Int) - 1074) ((ex c' : Int) - 1074 + ((ex c' : Int) - 1074)) w1 l1 l2 (by omega) (by omega) (by omega) (by omega) (by omega) (by omega) (1074 + 1074) (by omega) (by omega)
  rw [sv_mul 1074 1074 false false _ _ _ _ (by omega) (by omega), val_sv false c' 1074 (by omega), val_sv false a (1074 + 1074) (by omega)] at this
  have e0 : ((1074 : Int) - 1074).toNat = 0 := rfl
  have e1 : ((1074 : Int) + 1074 - 1074).toNat = E74 := rfl
  rw [e0, e1] at this
  simp only [Nat.pow_zero, Int.natCast_one, Int.mul_one] at this
  rw [← U_eq, val_U, val_mul] at this
  simp only [Bool.xor_self, Bool.false_eq_true, if_false] at this
  exact this

theorem rsqrt_spec (s : Bool) (a : Nat) (up : Bool) (ha : a < 9223372036854775808) :
    ∃ o, SqrtSpec s a up o ∧ ∀ w, Calls Try.prog 17 #[.float .f64 (W s a), .bool up] w fun e w' => ∃ v, e = .returned (.float .f64 v) ∧ OkR o v ∧ Gr w w' := by
  by_cases hf : a < 9218868437227405312 ∧ 0 < a ∧ s = false
  · obtain ⟨h1, h2, rfl⟩ := hf
    obtain ⟨r, k1, k2⟩ := rsqrt_sem a up h1 h2
    refine ⟨some (W false r), by unfold SqrtSpec; rw [if_pos ⟨h1, h2, rfl⟩]; exact ⟨r, rfl, k1⟩, fun w => ?_⟩
    refine (k2 w).mono ?_
    rintro e w' ⟨rfl, hg⟩
    exact ⟨_, rfl, rfl, hg⟩
  · refine ⟨double.sqrt (W s a), by unfold SqrtSpec; rw [if_neg hf], fun w => ?_⟩
    have run : ∃ v w2, Calls Try.prog 46 #[.float .f64 (W s a)] w (fun e w' => e = .returned (.float .f64 v) ∧ w' = w2) ∧ OkR (double.sqrt (W s a)) v ∧ Gr w w2 := by
      cases ho : double.sqrt (W s a) with
      | some v => exact ⟨v, w, sqrt53 _ _ w w (sqrt75 _ _ w ho), rfl, Gr.refl _⟩
      | none => exact ⟨_, _, sqrt53 _ _ w _ (sqrt75n _ w ho), nanOf_W _ _ _, (Gr.refl _).drew⟩
    obtain ⟨v, w2, hr, hok, hg⟩ := run
    by_cases hfa : a < 9218868437227405312
    · refine (rsqrt_le _ v up w w2 (fun w => rfin42 s a w hfa) ?_ hr).mono ?_
      · rw [negB_W s a (by omega), zeroB_W s a (by omega)]
        by_cases h2 : a = 0
        · rw [decide_eq_true h2]; simp [h2]
        · have hs : s = true := by
            cases s
            · exact absurd ⟨hfa, by omega, rfl⟩ hf
            · rfl
          rw [hs]; simp [h2]
      · rintro e w' ⟨rfl, rfl⟩
        exact ⟨v, rfl, hok, hg⟩
    · refine (rsqrt_nota _ v up w w2 (fun w => rfin42_not s a w ha (by omega)) hr).mono ?_
      rintro e w' ⟨rfl, rfl⟩
      exact ⟨v, rfl, hok, hg.drew⟩
theorem sqrtSpec_unique {s : Bool} {a : Nat} {up : Bool} {o o' : Option Nat} (h : SqrtSpec s a up o) (h' : SqrtSpec s a up o') : o' = o := by
  unfold SqrtSpec at h h'
  split at h
  · rename_i hf
    rw [if_pos hf] at h'
    obtain ⟨r, rfl, h1⟩ := h
    obtain ⟨r', rfl, h2⟩ := h'
    rw [dir_unique (by omega) h1 h2]
  · rename_i hf
    rw [if_neg hf] at h'
    rw [h, h']
end Go.Proofs.Yteompnpfoplppaa
