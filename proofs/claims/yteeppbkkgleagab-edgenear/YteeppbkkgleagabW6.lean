import Derived.Test.YteeppbkkgleagabW5
namespace Go.Proofs.Yteeppbkkgleagab
open Go.RowKit
open Ieee
set_option linter.unusedVariables false

theorem B_lt (s t : Bool) (a b : Nat) (ha : a ≤ 9218868437227405312) (hb : b ≤ 9218868437227405312) : (FloatKind.f64.format.order (W s a) (W t b) == some .lt) = decide (val s a < val t b) := by
  rw [f64_format, order_W s t a b ha hb]
  rcases Int.lt_trichotomy (val s a) (val t b) with h | h | h
  · rw [compare_lt h, decide_eq_true h]; rfl
  · rw [compare_eq h, decide_eq_false (by omega)]; rfl
  · rw [compare_gt h, decide_eq_false (by omega)]; rfl
theorem B_gt (s t : Bool) (a b : Nat) (ha : a ≤ 9218868437227405312) (hb : b ≤ 9218868437227405312) : (FloatKind.f64.format.order (W s a) (W t b) == some .gt) = decide (val t b < val s a) := by
  rw [f64_format, order_W s t a b ha hb]
  rcases Int.lt_trichotomy (val s a) (val t b) with h | h | h
  · rw [compare_lt h, decide_eq_false (by omega)]; rfl
  · rw [compare_eq h, decide_eq_false (by omega)]; rfl
  · rw [compare_gt h, decide_eq_true h]; rfl
theorem B_eq (s t : Bool) (a b : Nat) (ha : a ≤ 9218868437227405312) (hb : b ≤ 9218868437227405312) : (FloatKind.f64.format.order (W s a) (W t b) == some .eq) = decide (val s a = val t b) := by
  rw [f64_format, order_W s t a b ha hb]
  rcases Int.lt_trichotomy (val s a) (val t b) with h | h | h
  · rw [compare_lt h, decide_eq_false (by omega)]; rfl
  · rw [compare_eq h, decide_eq_true h]; rfl
  · rw [compare_gt h, decide_eq_false (by omega)]; rfl
theorem B_ne (s t : Bool) (a b : Nat) (ha : a ≤ 9218868437227405312) (hb : b ≤ 9218868437227405312) : (FloatKind.f64.format.order (W s a) (W t b) != some .eq) = decide (val s a ≠ val t b) := by
  rw [f64_format, order_W s t a b ha hb]
  rcases Int.lt_trichotomy (val s a) (val t b) with h | h | h
  · rw [compare_lt h, decide_eq_true (by omega)]; rfl
  · rw [compare_eq h, decide_eq_false (by omega)]; rfl
  · rw [compare_gt h, decide_eq_true (by omega)]; rfl

theorem z0 : (FloatKind.f64.format.order 0 0 == some .eq) = true := by decide +kernel

theorem law_nan (x : Nat) (up : Bool) (w : World) (hn : nanB x = true) (hf : finB x = false) :
    Calls Try.prog 3 #[.float .f64 x, .bool up] w fun e w' => e = .returned (.bool true) ∧ w' = w := by
  have h0 := z0
  have h1 : (FloatKind.f64.format.order x x != some .eq) = true := hn
  go_enter Try.func3, Try.ntmps3
  go_wp2_with (first | (go_at_call 4; refine (awake4 _).mono ?_; rintro e w' ⟨rfl, rfl⟩) | (go_at_call 5; refine (next_nan _ _ _ hn).mono ?_; rintro e w' ⟨rfl, rfl⟩) | (go_at_call 6; refine (near6_not _ _ hf).mono ?_; rintro e w' ⟨rfl, rfl⟩))
  go_ret
  exact ⟨rfl, rfl⟩

theorem law_stay (s : Bool) (w : World) :
    Calls Try.prog 3 #[.float .f64 (W s 9218868437227405312), .bool (!s)] w fun e w' => e = .returned (.bool true) ∧ w' = w.drew := by
  have h0 := z0
  have HN : Hid (∀ w, Calls Try.prog 5 #[.float .f64 (W s 9218868437227405312), .bool (!s)] w fun e w' => e = .returned (.float .f64 (W s 9218868437227405312)) ∧ w' = w) := by
    intro w
    have h := next5 s 9218868437227405312 (!s) w (by omega)
    have e : nextW s 9218868437227405312 (!s) = W s 9218868437227405312 := by cases s <;> rfl
    rw [e] at h
    exact h
  have HF : Hid (∀ w, Calls Try.prog 7 #[.float .f64 (W s 9218868437227405312)] w fun e w' => e = .returned (.bool false) ∧ w' = w.drew) := fin7i s
  have hf : finB (W s 9218868437227405312) = false := by rw [finB_W s _ (by omega)]; exact decide_eq_false (by omega)
  have b1 := B_lt s s 9218868437227405312 9218868437227405312 (by omega) (by omega)
  have b2 := B_gt s s 9218868437227405312 9218868437227405312 (by omega) (by omega)
  have b3 := B_eq s s 9218868437227405312 9218868437227405312 (by omega) (by omega)
  have b4 := B_ne s s 9218868437227405312 9218868437227405312 (by omega) (by omega)
  have b5 := B_gt s false 9218868437227405312 4845873199050653696 (by omega) (by omega)
  have b6 := B_lt s true 9218868437227405312 4845873199050653696 (by omega) (by omega)
  rw [decide_eq_false (by omega)] at b1 b2
  rw [decide_eq_true rfl] at b3
  rw [decide_eq_false (by simp)] at b4
  have hM := M_lt (show 4845873199050653696 < 9218868437227405312 by omega)
  have e5 : W false 4845873199050653696 = 4845873199050653696 := rfl
  have e6 : W true 4845873199050653696 = 14069245235905429504 := rfl
  rw [e5] at b5
  rw [e6] at b6
  have b7 : s = false → (FloatKind.f64.format.order (W s 9218868437227405312) 4845873199050653696 == some .gt) = true := by
    intro h; rw [b5]; subst h; unfold val; simp; omega
  have b8 : s = true → (FloatKind.f64.format.order (W s 9218868437227405312) 14069245235905429504 == some .lt) = true := by
    intro h; rw [b6]; subst h; unfold val; simp; omega
  have b9 : s = true → (FloatKind.f64.format.order (W s 9218868437227405312) 4845873199050653696 == some .gt) = false := by
    intro h; rw [b5]; subst h; exact decide_eq_false (by unfold val; simp only [Bool.false_eq_true, if_false, if_true]; omega)
  clear b5 b6
  generalize W s 9218868437227405312 = x at *
  cases s
  · have b7 := b7 rfl
    clear b8 b9
    go_enter Try.func3, Try.ntmps3
    go_wp2_with (first | (go_at_call 4; refine (awake4 _).mono ?_; rintro e w' ⟨rfl, rfl⟩) | (go_at_call 5; refine (HN.out _).mono ?_; rintro e w' ⟨rfl, rfl⟩) | (go_at_call 6; refine (near6_not _ _ hf).mono ?_; rintro e w' ⟨rfl, rfl⟩) | (go_at_call 7; refine (HF.out _).mono ?_; rintro e w' ⟨rfl, rfl⟩))
    go_ret
    exact ⟨rfl, rfl⟩
  · have b8 := b8 rfl
    have b9 := b9 rfl
    clear b7
    go_enter Try.func3, Try.ntmps3
    go_wp2_with (first | (go_at_call 4; refine (awake4 _).mono ?_; rintro e w' ⟨rfl, rfl⟩) | (go_at_call 5; refine (HN.out _).mono ?_; rintro e w' ⟨rfl, rfl⟩) | (go_at_call 6; refine (near6_not _ _ hf).mono ?_; rintro e w' ⟨rfl, rfl⟩) | (go_at_call 7; refine (HF.out _).mono ?_; rintro e w' ⟨rfl, rfl⟩))
    go_ret
    exact ⟨rfl, rfl⟩

theorem law_far (x nx x3 : Nat) (k : Int) (up g : Bool) (w : World) (hk : k ≠ 0)
    (hN : ∀ w, Calls Try.prog 5 #[.float .f64 x, .bool up] w fun e w' => e = .returned (.float .f64 nx) ∧ w' = w)
    (hB : ∀ w, Calls Try.prog 5 #[.float .f64 nx, .bool (!up)] w fun e w' => e = .returned (.float .f64 x3) ∧ w' = w)
    (hR : ∀ w, Calls Try.prog 6 #[.float .f64 x] w fun e w' => e = .returned (.tuple #[.int .i64 0, .float .f64 0, .int .i64 k]) ∧ w' = w)
    (hL : likeB x3 x = true) (e1 : (FloatKind.f64.format.order x x != some .eq) = false)
    (e2 : up = true → (FloatKind.f64.format.order nx x == some .lt) = false) (e3 : up = false → (FloatKind.f64.format.order nx x == some .gt) = false)
    (e4 : (FloatKind.f64.format.order nx x == some .eq) = false) (e5 : (FloatKind.f64.format.order nx x != some .eq) = true)
    (e6 : (FloatKind.f64.format.order x 4845873199050653696 == some .gt) = g) (e7 : g = false → (FloatKind.f64.format.order x 14069245235905429504 == some .lt) = true) :
    Calls Try.prog 3 #[.float .f64 x, .bool up] w fun e w' => e = .returned (.bool true) ∧ w' = w := by
  have h0 := z0
  have HN : Hid (∀ w, Calls Try.prog 5 #[.float .f64 x, .bool up] w fun e w' => e = .returned (.float .f64 nx) ∧ w' = w) := hN
  have HR : Hid (∀ w, Calls Try.prog 6 #[.float .f64 x] w fun e w' => e = .returned (.tuple #[.int .i64 0, .float .f64 0, .int .i64 k]) ∧ w' = w) := hR
  clear hN hR
  have hk' : (k == 0) = false := beq_eq_false_iff_ne.2 hk
  have hk2 : (k != 0) = true := by simp [hk]
  cases up
  · have e3 := e3 rfl
    have HB : Hid (∀ w, Calls Try.prog 5 #[.float .f64 nx, .bool true] w fun e w' => e = .returned (.float .f64 x3) ∧ w' = w) := hB
    clear e2 hB
    cases g
    · have e7 := e7 rfl
      go_enter Try.func3, Try.ntmps3
      go_wp2_with (first | (go_at_call 4; refine (awake4 _).mono ?_; rintro e w' ⟨rfl, rfl⟩) | (go_at_call 5; with_reducible refine (HN.out _).mono ?_; rintro e w' ⟨rfl, rfl⟩) | (go_at_call 5; with_reducible refine (HB.out _).mono ?_; rintro e w' ⟨rfl, rfl⟩) | (go_at_call 6; refine (HR.out _).mono ?_; rintro e w' ⟨rfl, rfl⟩) | (go_at_call 8; refine (like8 _ _ _).mono ?_; rintro e w' ⟨rfl, rfl⟩))
      go_ret
      exact ⟨rfl, rfl⟩
    · clear e7
      go_enter Try.func3, Try.ntmps3
      go_wp2_with (first | (go_at_call 4; refine (awake4 _).mono ?_; rintro e w' ⟨rfl, rfl⟩) | (go_at_call 5; with_reducible refine (HN.out _).mono ?_; rintro e w' ⟨rfl, rfl⟩) | (go_at_call 5; with_reducible refine (HB.out _).mono ?_; rintro e w' ⟨rfl, rfl⟩) | (go_at_call 6; refine (HR.out _).mono ?_; rintro e w' ⟨rfl, rfl⟩) | (go_at_call 8; refine (like8 _ _ _).mono ?_; rintro e w' ⟨rfl, rfl⟩))
      go_ret
      exact ⟨rfl, rfl⟩
  · have e2 := e2 rfl
    have HB : Hid (∀ w, Calls Try.prog 5 #[.float .f64 nx, .bool false] w fun e w' => e = .returned (.float .f64 x3) ∧ w' = w) := hB
    clear e3 hB
    cases g
    · have e7 := e7 rfl
      go_enter Try.func3, Try.ntmps3
      go_wp2_with (first | (go_at_call 4; refine (awake4 _).mono ?_; rintro e w' ⟨rfl, rfl⟩) | (go_at_call 5; with_reducible refine (HN.out _).mono ?_; rintro e w' ⟨rfl, rfl⟩) | (go_at_call 5; with_reducible refine (HB.out _).mono ?_; rintro e w' ⟨rfl, rfl⟩) | (go_at_call 6; refine (HR.out _).mono ?_; rintro e w' ⟨rfl, rfl⟩) | (go_at_call 8; refine (like8 _ _ _).mono ?_; rintro e w' ⟨rfl, rfl⟩))
      go_ret
      exact ⟨rfl, rfl⟩
    · clear e7
      go_enter Try.func3, Try.ntmps3
      go_wp2_with (first | (go_at_call 4; refine (awake4 _).mono ?_; rintro e w' ⟨rfl, rfl⟩) | (go_at_call 5; with_reducible refine (HN.out _).mono ?_; rintro e w' ⟨rfl, rfl⟩) | (go_at_call 5; with_reducible refine (HB.out _).mono ?_; rintro e w' ⟨rfl, rfl⟩) | (go_at_call 6; refine (HR.out _).mono ?_; rintro e w' ⟨rfl, rfl⟩) | (go_at_call 8; refine (like8 _ _ _).mono ?_; rintro e w' ⟨rfl, rfl⟩))
      go_ret
      exact ⟨rfl, rfl⟩

end Go.Proofs.Yteeppbkkgleagab
