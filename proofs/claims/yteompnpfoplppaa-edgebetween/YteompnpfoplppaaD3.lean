import Derived.Test.YteompnpfoplppaaD2
namespace Go.Proofs.Yteompnpfoplppaa
open Go.RowKit
open Ieee
set_option linter.unusedVariables false

/-- a NaN's word -/
def NanW (v : Nat) : Prop := ∃ s r, v = W s r ∧ 9218868437227405312 < r ∧ r < 9223372036854775808
/-- a float that is told: this one, or some NaN -/
def OkR (o : Option Nat) (v : Nat) : Prop := match o with
  | some x => v = x
  | none => NanW v
theorem nanW_nan {v : Nat} (h : NanW v) : nanB v = true := by
  obtain ⟨s, r, rfl, h1, h2⟩ := h
  rw [nanB_W s r h2]
  exact decide_eq_true h1
theorem nan_drawn (op : BinOp) (hop : op = .add ∨ op = .sub ∨ op = .mul ∨ op = .quo) (t : TypeId) (x y : Nat) (w : World) (h : floatBits op .f64 x y = none) :
    ∃ r, (binOp op t (.float .f64 x) (.float .f64 y)).run Try.prog w = .ok (.float .f64 r) w.drew ∧ NanW r := by
  refine ⟨Question.cut (.nanBits .f64 x y) (w.tape w.drawn (.nanBits .f64 x y)), ?_, ?_⟩
  · rcases hop with rfl | rfl | rfl | rfl <;> (unfold floatBits at h; simp only at h; simp [binOp, Op.floatArith, h])
    all_goals exact fun hf => Bool.noConfusion (show false = true from hf)
  · have key : ∀ s k : Nat, k < 4503599627370495 → s < 2 → NanW (s * 2 ^ 63 + 0x7ff0000000000000 + 1 + k) := by
      intro s k hk hs
      refine ⟨s == 1, 0x7ff0000000000000 + 1 + k, ?_, by omega, by omega⟩
      have : s = 0 ∨ s = 1 := by omega
      rcases this with rfl | rfl
      · show 0 * 2 ^ 63 + 0x7ff0000000000000 + 1 + k = 0x7ff0000000000000 + 1 + k
        omega
      · show 1 * 2 ^ 63 + 0x7ff0000000000000 + 1 + k = 9223372036854775808 + (0x7ff0000000000000 + 1 + k)
        omega
    exact key _ _ (by omega) (by omega)

theorem sign43 (s : Bool) (r : Nat) (w : World) (h : r < 9223372036854775808) : Calls Try.prog 36 #[.float .f64 (W s r)] w fun e w' => e = .returned (.bool s) ∧ w' = w := by
  have h1 := bits14
  have hw : wrap64 ((W s r : Nat) : Int) = (if s then (r : Int) - 9223372036854775808 else (r : Int)) := by
    unfold wrap64 W
    cases s <;> simp <;> omega
  cases s
  · simp only [Bool.false_eq_true, if_false] at hw
    have hl : ¬ (r : Int) < 0 := by omega
    go_enter Try.func36, Try.ntmps36
    go_wp2
    go_ret
    exact ⟨by simp, rfl⟩
  · simp only [if_true] at hw
    have hl : (r : Int) - 9223372036854775808 < 0 := by omega
    go_enter Try.func36, Try.ntmps36
    go_wp2
    go_ret
    exact ⟨by simp [hw], rfl⟩

theorem copy44 (w : World) : Calls Try.prog 37 #[.float .f64 0, .float .f64 13830554455654793216] w fun e w' => e = .returned (.float .f64 9223372036854775808) ∧ w' = w := by
  have h1 := bits14
  have h2 := from13
  go_enter Try.func37, Try.ntmps37
  go_wp2
  go_ret
  exact ⟨congrArg (fun z => Ending.returned (.float .f64 z)) (by decide +kernel), rfl⟩
theorem nought39 (s t : Bool) (a b : Nat) (up : Bool) (w : World) (ha : a < 9223372036854775808) (hb : b < 9223372036854775808) :
    Calls Try.prog 32 #[.float .f64 (W s a), .float .f64 (W t b), .bool up] w fun e w' => e = .returned (.float .f64 (if s = t then W s a else W (!up) 0)) ∧ w' = w := by
  have HA : Hid (∀ w, Calls Try.prog 36 #[.float .f64 (W s a)] w fun e w' => e = .returned (.bool s) ∧ w' = w) := fun w => sign43 s a w ha
  have HB : Hid (∀ w, Calls Try.prog 36 #[.float .f64 (W t b)] w fun e w' => e = .returned (.bool t) ∧ w' = w) := fun w => sign43 t b w hb
  generalize hx : W s a = x at *
  generalize W t b = y at *
  cases s <;> cases t <;> cases up
  all_goals
    go_enter Try.func32, Try.ntmps32
    go_wp2_with (first | (go_at_call 36; with_reducible refine (HA.out _).mono ?_; rintro e w' ⟨rfl, rfl⟩) | (go_at_call 36; with_reducible refine (HB.out _).mono ?_; rintro e w' ⟨rfl, rfl⟩) | (go_at_call 37; refine (copy44 _).mono ?_; rintro e w' ⟨rfl, rfl⟩))
    go_ret
    exact ⟨by first | rfl | decide, rfl⟩

/-- WHAT Add TELLS -/
def AddSpec (s : Bool) (a : Nat) (t : Bool) (b : Nat) (up : Bool) (o : Option Nat) : Prop :=
  if a < 9218868437227405312 ∧ b < 9218868437227405312 then
    if val s a + val t b = 0 then o = some (if s = t then W s a else W (!up) 0)
    else ∃ r, o = some (W (decide (val s a + val t b < 0)) r) ∧ Dir (up != decide (val s a + val t b < 0)) (val s a + val t b).natAbs 1 r
  else o = double.add (W s a) (W t b)

theorem add11_zero (a b s z : Nat) (up : Bool) (w : World) (ha : finB a = true) (hb : finB b = true) (h1 : double.add a b = some s) (hz : zeroB s = true)
    (he : ∀ w, Calls Try.prog 32 #[.float .f64 a, .float .f64 b, .bool up] w fun e w' => e = .returned (.float .f64 z) ∧ w' = w) :
    Calls Try.prog 8 #[.float .f64 a, .float .f64 b, .bool up] w fun e w' => e = .returned (.float .f64 z) ∧ w' = w := by
  have g1 := add_run w _ _ _ h1
  clear h1
  unfold zeroB at hz
  have HE : Hid (∀ w, Calls Try.prog 32 #[.float .f64 a, .float .f64 b, .bool up] w fun e w' => e = .returned (.float .f64 z) ∧ w' = w) := he
  clear he
  go_enter Try.func8, Try.ntmps8
  go_wp2_with (first | (go_at_call 31; refine (fin15 _ _).mono ?_; rintro e w' ⟨rfl, rfl⟩) | (go_at_call 32; refine (HE.out _).mono ?_; rintro e w' ⟨rfl, rfl⟩))
  go_ret
  exact ⟨rfl, rfl⟩
theorem add11_not (a b v : Nat) (up : Bool) (w w2 : World) (h : (finB a && finB b) = false) (h1 : (binOp .add 22 (.float .f64 a) (.float .f64 b)).run Try.prog w = .ok (.float .f64 v) w2) :
    Calls Try.prog 8 #[.float .f64 a, .float .f64 b, .bool up] w fun e w' => e = .returned (.float .f64 v) ∧ w' = w2 := by
  cases ha : finB a
  · go_enter Try.func8, Try.ntmps8
    go_wp2_with (go_at_call 31; refine (fin15 _ _).mono ?_; rintro e w' ⟨rfl, rfl⟩)
    go_ret
    exact ⟨rfl, rfl⟩
  · have hb : finB b = false := by rw [ha, Bool.true_and] at h; exact h
    clear h
    go_enter Try.func8, Try.ntmps8
    go_wp2_with (go_at_call 31; refine (fin15 _ _).mono ?_; rintro e w' ⟨rfl, rfl⟩)
    go_ret
    exact ⟨rfl, rfl⟩

theorem add11_sem (s t : Bool) (a b : Nat) (up : Bool) (ha : a < 9218868437227405312) (hb : b < 9218868437227405312) (hT : val s a + val t b ≠ 0) :
    ∃ r, Dir (up != decide (val s a + val t b < 0)) (val s a + val t b).natAbs 1 r ∧
      ∀ w, Calls Try.prog 8 #[.float .f64 (W s a), .float .f64 (W t b), .bool up] w fun e w' => e = .returned (.float .f64 (W (decide (val s a + val t b < 0)) r)) ∧ w' = w := by
  obtain ⟨r, c, h1, h2, h3, h4⟩ := add_faithful s t a b ha hb
  rw [if_neg hT] at h4
  have hfa : finB (W s a) = true := by rw [finB_W s a (by omega)]; exact decide_eq_true ha
  have hfb : finB (W t b) = true := by rw [finB_W t b (by omega)]; exact decide_eq_true hb
  have hnear : Near (val s a + val t b).natAbs 1 (min c 9218868437227405312) := near_of_faithful (r := r) (by omega) (by rw [Nat.mul_one]; exact h1) (by rw [Nat.mul_one]; exact h2) (by rw [Nat.mul_one]; exact h3)
  have hr : 0 < r := by
    refine Nat.pos_of_ne_zero fun h0 => ?_
    subst h0
    rw [show 0 + 1 = 1 from rfl, M_one] at h2
    omega
  have hz : zeroB (W (decide (val s a + val t b < 0)) (min c 9218868437227405312)) = false := by
    rw [zeroB_W _ _ (Nat.min_le_right ..)]
    exact decide_eq_false (by omega)
  have habs := B_lt false false a b (by omega) (by omega)
  rw [show W false a = absN (W s a) from (abs_W s a (by omega)).symm, show W false b = absN (W t b) from (abs_W t b (by omega)).symm] at habs
  by_cases hab : b ≤ a
  · obtain ⟨y, o, g1, g2, g3, g4⟩ := err_says s t a b r c ha hab hT h1 h2 h3
    have hM := M_le hab
    rw [decide_eq_false (by unfold val; simp; omega)] at habs
    obtain ⟨r', k1, k2⟩ := side_ok _ _ 1 _ o up (by omega) hnear g3 g4
    refine ⟨r', k2, fun w => ?_⟩
    have := add10 _ _ _ o _ _ up w hfa hfb h4 hz rfl (by omega) (fun w => err21_keep _ _ _ y o w habs g1 g2)
    rw [k1] at this
    exact this
  · have hT' : val t b + val s a ≠ 0 := by rw [Int.add_comm]; exact hT
    obtain ⟨y, o, g1, g2, g3, g4⟩ := err_says t s b a r c hb (by omega) hT' (by rw [Int.add_comm]; exact h1) (by rw [Int.add_comm]; exact h2) (by rw [Int.add_comm]; exact h3)
    rw [Int.add_comm (val t b)] at g1 g3 g4
    have hM := M_lt (show a < b by omega)
    rw [decide_eq_true (by unfold val; simp; omega)] at habs
    obtain ⟨r', k1, k2⟩ := side_ok _ _ 1 _ o up (by omega) hnear g3 g4
    refine ⟨r', k2, fun w => ?_⟩
    have := add10 _ _ _ o _ _ up w hfa hfb h4 hz rfl (by omega) (fun w => err41_swap _ _ _ y o w habs g1 g2)
    rw [k1] at this
    exact this

theorem add11_spec (s t : Bool) (a b : Nat) (up : Bool) (ha : a < 9223372036854775808) (hb : b < 9223372036854775808) :
    ∃ o, AddSpec s a t b up o ∧ ∀ w, Calls Try.prog 8 #[.float .f64 (W s a), .float .f64 (W t b), .bool up] w fun e w' => ∃ v, e = .returned (.float .f64 v) ∧ OkR o v ∧ Grown w w' := by
  by_cases hf : a < 9218868437227405312 ∧ b < 9218868437227405312
  · by_cases hT : val s a + val t b = 0
    · refine ⟨some (if s = t then W s a else W (!up) 0), by unfold AddSpec; rw [if_pos hf, if_pos hT], fun w => ?_⟩
      have hfa : finB (W s a) = true := by rw [finB_W s a (by omega)]; exact decide_eq_true hf.1
      have hfb : finB (W t b) = true := by rw [finB_W t b (by omega)]; exact decide_eq_true hf.2
      have h4 := add_exact s t a b 0 hf.1 hf.2 (by omega) (by rw [hT]; rfl)
      refine (add11_zero _ _ _ _ up w hfa hfb h4 (by rw [zeroB_W _ _ (by omega)]; rfl) (fun w => nought39 s t a b up w (by omega) (by omega))).mono ?_
      rintro e w' ⟨rfl, rfl⟩
      exact ⟨_, rfl, rfl, Grown.refl _⟩
    · obtain ⟨r, h1, h2⟩ := add11_sem s t a b up hf.1 hf.2 hT
      refine ⟨some (W (decide (val s a + val t b < 0)) r), by unfold AddSpec; rw [if_pos hf, if_neg hT]; exact ⟨r, rfl, h1⟩, fun w => ?_⟩
      refine (h2 w).mono ?_
      rintro e w' ⟨rfl, rfl⟩
      exact ⟨_, rfl, rfl, Grown.refl _⟩
  · refine ⟨double.add (W s a) (W t b), by unfold AddSpec; rw [if_neg hf], fun w => ?_⟩
    have hfin : (finB (W s a) && finB (W t b)) = false := by
      rw [finB_W s a ha, finB_W t b hb, ← Bool.decide_and]
      exact decide_eq_false hf
    cases ho : double.add (W s a) (W t b) with
    | some v =>
      refine (add11_not _ _ v up w w hfin (add_run w _ _ _ ho)).mono ?_
      rintro e w' ⟨rfl, rfl⟩
      exact ⟨_, rfl, rfl, Grown.refl _⟩
    | none =>
      obtain ⟨v, h1, h2⟩ := nan_drawn .add (by simp) 22 (W s a) (W t b) w ho
      refine (add11_not _ _ v up w _ hfin h1).mono ?_
      rintro e w' ⟨rfl, rfl⟩
      exact ⟨_, rfl, h2, (Grown.refl _).drew⟩
end Go.Proofs.Yteompnpfoplppaa
