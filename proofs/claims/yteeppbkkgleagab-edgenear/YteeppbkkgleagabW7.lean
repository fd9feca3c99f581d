import Derived.Test.YteeppbkkgleagabW6
namespace Go.Proofs.Yteeppbkkgleagab
open Go.RowKit
open Ieee
set_option linter.unusedVariables false

theorem law_near00 (x nx x3 d nf s1 : Nat) (n m : Int) (up : Bool) (w : World)
    (hN : ∀ w, Calls Try.prog 5 #[.float .f64 x, .bool up] w fun e w' => e = .returned (.float .f64 nx) ∧ w' = w)
    (hB : ∀ w, Calls Try.prog 5 #[.float .f64 nx, .bool (!up)] w fun e w' => e = .returned (.float .f64 x3) ∧ w' = w)
    (hR : ∀ w, Calls Try.prog 6 #[.float .f64 x] w fun e w' => e = .returned (.tuple #[.int .i64 n, .float .f64 d, .int .i64 0]) ∧ w' = w)
    (hV : ∀ w, Calls Try.prog 9 #[.float .f64 nf] w fun e w' => e = .returned (.tuple #[.int .i64 n, .bool true]) ∧ w' = w)
    (hX : ∀ w, Calls Try.prog 9 #[.float .f64 x] w fun e w' => e = .returned (.tuple #[.int .i64 m, .bool false]) ∧ w' = w)
    (hL : likeB x3 x = true) (e1 : (FloatKind.f64.format.order x x != some .eq) = false)
    (e2 : up = true → (FloatKind.f64.format.order nx x == some .lt) = false) (e3 : up = false → (FloatKind.f64.format.order nx x == some .gt) = false)
    (e4 : (FloatKind.f64.format.order nx x == some .eq) = false) (e5 : (FloatKind.f64.format.order nx x != some .eq) = true)
    (hf : floatOfInt .f64 n = nf)
    (d1 : (FloatKind.f64.format.order d 0 == some .gt) = true) (d2 : (FloatKind.f64.format.order d 4602678819172646912 == some .lt) = false) (d4 : (FloatKind.f64.format.order d 4602678819172646912 == some .eq) = true)
    (d3 : (FloatKind.f64.format.order d 0 == some .eq) = false)
    (ha : double.add nf d = some s1) (hor : (FloatKind.f64.format.order s1 x == some .eq) = true ∨ ((FloatKind.f64.format.order s1 x == some .eq) = false ∧ ∃ s2, double.sub nf d = some s2 ∧ (FloatKind.f64.format.order s2 x == some .eq) = true)) :
    Calls Try.prog 3 #[.float .f64 x, .bool up] w fun e w' => e = .returned (.bool true) ∧ w' = w := by
  have HN : Hid (∀ w, Calls Try.prog 5 #[.float .f64 x, .bool up] w fun e w' => e = .returned (.float .f64 nx) ∧ w' = w) := hN
  have HR : Hid (∀ w, Calls Try.prog 6 #[.float .f64 x] w fun e w' => e = .returned (.tuple #[.int .i64 n, .float .f64 d, .int .i64 0]) ∧ w' = w) := hR
  have HV : Hid (∀ w, Calls Try.prog 9 #[.float .f64 nf] w fun e w' => e = .returned (.tuple #[.int .i64 n, .bool true]) ∧ w' = w) := hV
  have HX : Hid (∀ w, Calls Try.prog 9 #[.float .f64 x] w fun e w' => e = .returned (.tuple #[.int .i64 m, .bool false]) ∧ w' = w) := hX
  clear hN hR hV hX
  have g1 := add_run w _ _ _ ha
  clear ha
  have hnn : (n == n) = true := beq_self_eq_true n
  cases up
  · have e3 := e3 rfl
    have HB : Hid (∀ w, Calls Try.prog 5 #[.float .f64 nx, .bool true] w fun e w' => e = .returned (.float .f64 x3) ∧ w' = w) := hB
    clear e2 hB
    rcases hor with hor | ⟨ho, s2, hs, hq⟩
    · go_enter Try.func3, Try.ntmps3
      go_wp2_with (first | (go_at_call 4; refine (awake4 _).mono ?_; rintro e w' ⟨rfl, rfl⟩) | (go_at_call 5; with_reducible refine (HN.out _).mono ?_; rintro e w' ⟨rfl, rfl⟩) | (go_at_call 5; with_reducible refine (HB.out _).mono ?_; rintro e w' ⟨rfl, rfl⟩) | (go_at_call 6; refine (HR.out _).mono ?_; rintro e w' ⟨rfl, rfl⟩) | (go_at_call 8; refine (like8 _ _ _).mono ?_; rintro e w' ⟨rfl, rfl⟩) | (go_at_call 9; with_reducible refine (HV.out _).mono ?_; rintro e w' ⟨rfl, rfl⟩) | (go_at_call 9; with_reducible refine (HX.out _).mono ?_; rintro e w' ⟨rfl, rfl⟩))
      go_ret
      exact ⟨rfl, rfl⟩
    · have g2 := sub_run w _ _ _ hs
      clear hs
      go_enter Try.func3, Try.ntmps3
      go_wp2_with (first | (go_at_call 4; refine (awake4 _).mono ?_; rintro e w' ⟨rfl, rfl⟩) | (go_at_call 5; with_reducible refine (HN.out _).mono ?_; rintro e w' ⟨rfl, rfl⟩) | (go_at_call 5; with_reducible refine (HB.out _).mono ?_; rintro e w' ⟨rfl, rfl⟩) | (go_at_call 6; refine (HR.out _).mono ?_; rintro e w' ⟨rfl, rfl⟩) | (go_at_call 8; refine (like8 _ _ _).mono ?_; rintro e w' ⟨rfl, rfl⟩) | (go_at_call 9; with_reducible refine (HV.out _).mono ?_; rintro e w' ⟨rfl, rfl⟩) | (go_at_call 9; with_reducible refine (HX.out _).mono ?_; rintro e w' ⟨rfl, rfl⟩))
      go_ret
      exact ⟨rfl, rfl⟩
  · have e2 := e2 rfl
    have HB : Hid (∀ w, Calls Try.prog 5 #[.float .f64 nx, .bool false] w fun e w' => e = .returned (.float .f64 x3) ∧ w' = w) := hB
    clear e3 hB
    rcases hor with hor | ⟨ho, s2, hs, hq⟩
    · go_enter Try.func3, Try.ntmps3
      go_wp2_with (first | (go_at_call 4; refine (awake4 _).mono ?_; rintro e w' ⟨rfl, rfl⟩) | (go_at_call 5; with_reducible refine (HN.out _).mono ?_; rintro e w' ⟨rfl, rfl⟩) | (go_at_call 5; with_reducible refine (HB.out _).mono ?_; rintro e w' ⟨rfl, rfl⟩) | (go_at_call 6; refine (HR.out _).mono ?_; rintro e w' ⟨rfl, rfl⟩) | (go_at_call 8; refine (like8 _ _ _).mono ?_; rintro e w' ⟨rfl, rfl⟩) | (go_at_call 9; with_reducible refine (HV.out _).mono ?_; rintro e w' ⟨rfl, rfl⟩) | (go_at_call 9; with_reducible refine (HX.out _).mono ?_; rintro e w' ⟨rfl, rfl⟩))
      go_ret
      exact ⟨rfl, rfl⟩
    · have g2 := sub_run w _ _ _ hs
      clear hs
      go_enter Try.func3, Try.ntmps3
      go_wp2_with (first | (go_at_call 4; refine (awake4 _).mono ?_; rintro e w' ⟨rfl, rfl⟩) | (go_at_call 5; with_reducible refine (HN.out _).mono ?_; rintro e w' ⟨rfl, rfl⟩) | (go_at_call 5; with_reducible refine (HB.out _).mono ?_; rintro e w' ⟨rfl, rfl⟩) | (go_at_call 6; refine (HR.out _).mono ?_; rintro e w' ⟨rfl, rfl⟩) | (go_at_call 8; refine (like8 _ _ _).mono ?_; rintro e w' ⟨rfl, rfl⟩) | (go_at_call 9; with_reducible refine (HV.out _).mono ?_; rintro e w' ⟨rfl, rfl⟩) | (go_at_call 9; with_reducible refine (HX.out _).mono ?_; rintro e w' ⟨rfl, rfl⟩))
      go_ret
      exact ⟨rfl, rfl⟩
theorem law_near01 (x nx x3 d nf s1 : Nat) (n m : Int) (up : Bool) (w : World)
    (hN : ∀ w, Calls Try.prog 5 #[.float .f64 x, .bool up] w fun e w' => e = .returned (.float .f64 nx) ∧ w' = w)
    (hB : ∀ w, Calls Try.prog 5 #[.float .f64 nx, .bool (!up)] w fun e w' => e = .returned (.float .f64 x3) ∧ w' = w)
    (hR : ∀ w, Calls Try.prog 6 #[.float .f64 x] w fun e w' => e = .returned (.tuple #[.int .i64 n, .float .f64 d, .int .i64 0]) ∧ w' = w)
    (hV : ∀ w, Calls Try.prog 9 #[.float .f64 nf] w fun e w' => e = .returned (.tuple #[.int .i64 n, .bool true]) ∧ w' = w)
    (hX : ∀ w, Calls Try.prog 9 #[.float .f64 x] w fun e w' => e = .returned (.tuple #[.int .i64 m, .bool false]) ∧ w' = w)
    (hL : likeB x3 x = true) (e1 : (FloatKind.f64.format.order x x != some .eq) = false)
    (e2 : up = true → (FloatKind.f64.format.order nx x == some .lt) = false) (e3 : up = false → (FloatKind.f64.format.order nx x == some .gt) = false)
    (e4 : (FloatKind.f64.format.order nx x == some .eq) = false) (e5 : (FloatKind.f64.format.order nx x != some .eq) = true)
    (hf : floatOfInt .f64 n = nf)
    (d1 : (FloatKind.f64.format.order d 0 == some .gt) = true) (d2 : (FloatKind.f64.format.order d 4602678819172646912 == some .lt) = true)
    (d3 : (FloatKind.f64.format.order d 0 == some .eq) = false)
    (ha : double.add nf d = some s1) (hor : (FloatKind.f64.format.order s1 x == some .eq) = true ∨ ((FloatKind.f64.format.order s1 x == some .eq) = false ∧ ∃ s2, double.sub nf d = some s2 ∧ (FloatKind.f64.format.order s2 x == some .eq) = true)) :
    Calls Try.prog 3 #[.float .f64 x, .bool up] w fun e w' => e = .returned (.bool true) ∧ w' = w := by
  have HN : Hid (∀ w, Calls Try.prog 5 #[.float .f64 x, .bool up] w fun e w' => e = .returned (.float .f64 nx) ∧ w' = w) := hN
  have HR : Hid (∀ w, Calls Try.prog 6 #[.float .f64 x] w fun e w' => e = .returned (.tuple #[.int .i64 n, .float .f64 d, .int .i64 0]) ∧ w' = w) := hR
  have HV : Hid (∀ w, Calls Try.prog 9 #[.float .f64 nf] w fun e w' => e = .returned (.tuple #[.int .i64 n, .bool true]) ∧ w' = w) := hV
  have HX : Hid (∀ w, Calls Try.prog 9 #[.float .f64 x] w fun e w' => e = .returned (.tuple #[.int .i64 m, .bool false]) ∧ w' = w) := hX
  clear hN hR hV hX
  have g1 := add_run w _ _ _ ha
  clear ha
  have hnn : (n == n) = true := beq_self_eq_true n
  cases up
  · have e3 := e3 rfl
    have HB : Hid (∀ w, Calls Try.prog 5 #[.float .f64 nx, .bool true] w fun e w' => e = .returned (.float .f64 x3) ∧ w' = w) := hB
    clear e2 hB
    rcases hor with hor | ⟨ho, s2, hs, hq⟩
    · go_enter Try.func3, Try.ntmps3
      go_wp2_with (first | (go_at_call 4; refine (awake4 _).mono ?_; rintro e w' ⟨rfl, rfl⟩) | (go_at_call 5; with_reducible refine (HN.out _).mono ?_; rintro e w' ⟨rfl, rfl⟩) | (go_at_call 5; with_reducible refine (HB.out _).mono ?_; rintro e w' ⟨rfl, rfl⟩) | (go_at_call 6; refine (HR.out _).mono ?_; rintro e w' ⟨rfl, rfl⟩) | (go_at_call 8; refine (like8 _ _ _).mono ?_; rintro e w' ⟨rfl, rfl⟩) | (go_at_call 9; with_reducible refine (HV.out _).mono ?_; rintro e w' ⟨rfl, rfl⟩) | (go_at_call 9; with_reducible refine (HX.out _).mono ?_; rintro e w' ⟨rfl, rfl⟩))
      go_ret
      exact ⟨rfl, rfl⟩
    · have g2 := sub_run w _ _ _ hs
      clear hs
      go_enter Try.func3, Try.ntmps3
      go_wp2_with (first | (go_at_call 4; refine (awake4 _).mono ?_; rintro e w' ⟨rfl, rfl⟩) | (go_at_call 5; with_reducible refine (HN.out _).mono ?_; rintro e w' ⟨rfl, rfl⟩) | (go_at_call 5; with_reducible refine (HB.out _).mono ?_; rintro e w' ⟨rfl, rfl⟩) | (go_at_call 6; refine (HR.out _).mono ?_; rintro e w' ⟨rfl, rfl⟩) | (go_at_call 8; refine (like8 _ _ _).mono ?_; rintro e w' ⟨rfl, rfl⟩) | (go_at_call 9; with_reducible refine (HV.out _).mono ?_; rintro e w' ⟨rfl, rfl⟩) | (go_at_call 9; with_reducible refine (HX.out _).mono ?_; rintro e w' ⟨rfl, rfl⟩))
      go_ret
      exact ⟨rfl, rfl⟩
  · have e2 := e2 rfl
    have HB : Hid (∀ w, Calls Try.prog 5 #[.float .f64 nx, .bool false] w fun e w' => e = .returned (.float .f64 x3) ∧ w' = w) := hB
    clear e3 hB
    rcases hor with hor | ⟨ho, s2, hs, hq⟩
    · go_enter Try.func3, Try.ntmps3
      go_wp2_with (first | (go_at_call 4; refine (awake4 _).mono ?_; rintro e w' ⟨rfl, rfl⟩) | (go_at_call 5; with_reducible refine (HN.out _).mono ?_; rintro e w' ⟨rfl, rfl⟩) | (go_at_call 5; with_reducible refine (HB.out _).mono ?_; rintro e w' ⟨rfl, rfl⟩) | (go_at_call 6; refine (HR.out _).mono ?_; rintro e w' ⟨rfl, rfl⟩) | (go_at_call 8; refine (like8 _ _ _).mono ?_; rintro e w' ⟨rfl, rfl⟩) | (go_at_call 9; with_reducible refine (HV.out _).mono ?_; rintro e w' ⟨rfl, rfl⟩) | (go_at_call 9; with_reducible refine (HX.out _).mono ?_; rintro e w' ⟨rfl, rfl⟩))
      go_ret
      exact ⟨rfl, rfl⟩
    · have g2 := sub_run w _ _ _ hs
      clear hs
      go_enter Try.func3, Try.ntmps3
      go_wp2_with (first | (go_at_call 4; refine (awake4 _).mono ?_; rintro e w' ⟨rfl, rfl⟩) | (go_at_call 5; with_reducible refine (HN.out _).mono ?_; rintro e w' ⟨rfl, rfl⟩) | (go_at_call 5; with_reducible refine (HB.out _).mono ?_; rintro e w' ⟨rfl, rfl⟩) | (go_at_call 6; refine (HR.out _).mono ?_; rintro e w' ⟨rfl, rfl⟩) | (go_at_call 8; refine (like8 _ _ _).mono ?_; rintro e w' ⟨rfl, rfl⟩) | (go_at_call 9; with_reducible refine (HV.out _).mono ?_; rintro e w' ⟨rfl, rfl⟩) | (go_at_call 9; with_reducible refine (HX.out _).mono ?_; rintro e w' ⟨rfl, rfl⟩))
      go_ret
      exact ⟨rfl, rfl⟩
theorem law_near10 (x nx x3 d nf s1 : Nat) (n m : Int) (up : Bool) (w : World)
    (hN : ∀ w, Calls Try.prog 5 #[.float .f64 x, .bool up] w fun e w' => e = .returned (.float .f64 nx) ∧ w' = w)
    (hB : ∀ w, Calls Try.prog 5 #[.float .f64 nx, .bool (!up)] w fun e w' => e = .returned (.float .f64 x3) ∧ w' = w)
    (hR : ∀ w, Calls Try.prog 6 #[.float .f64 x] w fun e w' => e = .returned (.tuple #[.int .i64 n, .float .f64 d, .int .i64 0]) ∧ w' = w)
    (hV : ∀ w, Calls Try.prog 9 #[.float .f64 nf] w fun e w' => e = .returned (.tuple #[.int .i64 n, .bool true]) ∧ w' = w)
    (hX : ∀ w, Calls Try.prog 9 #[.float .f64 x] w fun e w' => e = .returned (.tuple #[.int .i64 m, .bool true]) ∧ w' = w)
    (hL : likeB x3 x = true) (e1 : (FloatKind.f64.format.order x x != some .eq) = false)
    (e2 : up = true → (FloatKind.f64.format.order nx x == some .lt) = false) (e3 : up = false → (FloatKind.f64.format.order nx x == some .gt) = false)
    (e4 : (FloatKind.f64.format.order nx x == some .eq) = false) (e5 : (FloatKind.f64.format.order nx x != some .eq) = true)
    (hf : floatOfInt .f64 n = nf)
    (d1 : (FloatKind.f64.format.order d 0 == some .gt) = false) (d2 : (FloatKind.f64.format.order d 4602678819172646912 == some .lt) = false) (d4 : (FloatKind.f64.format.order d 4602678819172646912 == some .eq) = true)
    (d3 : (FloatKind.f64.format.order d 0 == some .eq) = true) (hm : m = n)
    (ha : double.add nf d = some s1) (hor : (FloatKind.f64.format.order s1 x == some .eq) = true ∨ ((FloatKind.f64.format.order s1 x == some .eq) = false ∧ ∃ s2, double.sub nf d = some s2 ∧ (FloatKind.f64.format.order s2 x == some .eq) = true)) :
    Calls Try.prog 3 #[.float .f64 x, .bool up] w fun e w' => e = .returned (.bool true) ∧ w' = w := by
  have HN : Hid (∀ w, Calls Try.prog 5 #[.float .f64 x, .bool up] w fun e w' => e = .returned (.float .f64 nx) ∧ w' = w) := hN
  have HR : Hid (∀ w, Calls Try.prog 6 #[.float .f64 x] w fun e w' => e = .returned (.tuple #[.int .i64 n, .float .f64 d, .int .i64 0]) ∧ w' = w) := hR
  have HV : Hid (∀ w, Calls Try.prog 9 #[.float .f64 nf] w fun e w' => e = .returned (.tuple #[.int .i64 n, .bool true]) ∧ w' = w) := hV
  have HX : Hid (∀ w, Calls Try.prog 9 #[.float .f64 x] w fun e w' => e = .returned (.tuple #[.int .i64 m, .bool true]) ∧ w' = w) := hX
  clear hN hR hV hX
  have g1 := add_run w _ _ _ ha
  clear ha
  have hnn : (n == n) = true := beq_self_eq_true n
  subst hm
  cases up
  · have e3 := e3 rfl
    have HB : Hid (∀ w, Calls Try.prog 5 #[.float .f64 nx, .bool true] w fun e w' => e = .returned (.float .f64 x3) ∧ w' = w) := hB
    clear e2 hB
    rcases hor with hor | ⟨ho, s2, hs, hq⟩
    · go_enter Try.func3, Try.ntmps3
      go_wp2_with (first | (go_at_call 4; refine (awake4 _).mono ?_; rintro e w' ⟨rfl, rfl⟩) | (go_at_call 5; with_reducible refine (HN.out _).mono ?_; rintro e w' ⟨rfl, rfl⟩) | (go_at_call 5; with_reducible refine (HB.out _).mono ?_; rintro e w' ⟨rfl, rfl⟩) | (go_at_call 6; refine (HR.out _).mono ?_; rintro e w' ⟨rfl, rfl⟩) | (go_at_call 8; refine (like8 _ _ _).mono ?_; rintro e w' ⟨rfl, rfl⟩) | (go_at_call 9; with_reducible refine (HV.out _).mono ?_; rintro e w' ⟨rfl, rfl⟩) | (go_at_call 9; with_reducible refine (HX.out _).mono ?_; rintro e w' ⟨rfl, rfl⟩))
      go_ret
      exact ⟨rfl, rfl⟩
    · have g2 := sub_run w _ _ _ hs
      clear hs
      go_enter Try.func3, Try.ntmps3
      go_wp2_with (first | (go_at_call 4; refine (awake4 _).mono ?_; rintro e w' ⟨rfl, rfl⟩) | (go_at_call 5; with_reducible refine (HN.out _).mono ?_; rintro e w' ⟨rfl, rfl⟩) | (go_at_call 5; with_reducible refine (HB.out _).mono ?_; rintro e w' ⟨rfl, rfl⟩) | (go_at_call 6; refine (HR.out _).mono ?_; rintro e w' ⟨rfl, rfl⟩) | (go_at_call 8; refine (like8 _ _ _).mono ?_; rintro e w' ⟨rfl, rfl⟩) | (go_at_call 9; with_reducible refine (HV.out _).mono ?_; rintro e w' ⟨rfl, rfl⟩) | (go_at_call 9; with_reducible refine (HX.out _).mono ?_; rintro e w' ⟨rfl, rfl⟩))
      go_ret
      exact ⟨rfl, rfl⟩
  · have e2 := e2 rfl
    have HB : Hid (∀ w, Calls Try.prog 5 #[.float .f64 nx, .bool false] w fun e w' => e = .returned (.float .f64 x3) ∧ w' = w) := hB
    clear e3 hB
    rcases hor with hor | ⟨ho, s2, hs, hq⟩
    · go_enter Try.func3, Try.ntmps3
      go_wp2_with (first | (go_at_call 4; refine (awake4 _).mono ?_; rintro e w' ⟨rfl, rfl⟩) | (go_at_call 5; with_reducible refine (HN.out _).mono ?_; rintro e w' ⟨rfl, rfl⟩) | (go_at_call 5; with_reducible refine (HB.out _).mono ?_; rintro e w' ⟨rfl, rfl⟩) | (go_at_call 6; refine (HR.out _).mono ?_; rintro e w' ⟨rfl, rfl⟩) | (go_at_call 8; refine (like8 _ _ _).mono ?_; rintro e w' ⟨rfl, rfl⟩) | (go_at_call 9; with_reducible refine (HV.out _).mono ?_; rintro e w' ⟨rfl, rfl⟩) | (go_at_call 9; with_reducible refine (HX.out _).mono ?_; rintro e w' ⟨rfl, rfl⟩))
      go_ret
      exact ⟨rfl, rfl⟩
    · have g2 := sub_run w _ _ _ hs
      clear hs
      go_enter Try.func3, Try.ntmps3
      go_wp2_with (first | (go_at_call 4; refine (awake4 _).mono ?_; rintro e w' ⟨rfl, rfl⟩) | (go_at_call 5; with_reducible refine (HN.out _).mono ?_; rintro e w' ⟨rfl, rfl⟩) | (go_at_call 5; with_reducible refine (HB.out _).mono ?_; rintro e w' ⟨rfl, rfl⟩) | (go_at_call 6; refine (HR.out _).mono ?_; rintro e w' ⟨rfl, rfl⟩) | (go_at_call 8; refine (like8 _ _ _).mono ?_; rintro e w' ⟨rfl, rfl⟩) | (go_at_call 9; with_reducible refine (HV.out _).mono ?_; rintro e w' ⟨rfl, rfl⟩) | (go_at_call 9; with_reducible refine (HX.out _).mono ?_; rintro e w' ⟨rfl, rfl⟩))
      go_ret
      exact ⟨rfl, rfl⟩
theorem law_near11 (x nx x3 d nf s1 : Nat) (n m : Int) (up : Bool) (w : World)
    (hN : ∀ w, Calls Try.prog 5 #[.float .f64 x, .bool up] w fun e w' => e = .returned (.float .f64 nx) ∧ w' = w)
    (hB : ∀ w, Calls Try.prog 5 #[.float .f64 nx, .bool (!up)] w fun e w' => e = .returned (.float .f64 x3) ∧ w' = w)
    (hR : ∀ w, Calls Try.prog 6 #[.float .f64 x] w fun e w' => e = .returned (.tuple #[.int .i64 n, .float .f64 d, .int .i64 0]) ∧ w' = w)
    (hV : ∀ w, Calls Try.prog 9 #[.float .f64 nf] w fun e w' => e = .returned (.tuple #[.int .i64 n, .bool true]) ∧ w' = w)
    (hX : ∀ w, Calls Try.prog 9 #[.float .f64 x] w fun e w' => e = .returned (.tuple #[.int .i64 m, .bool true]) ∧ w' = w)
    (hL : likeB x3 x = true) (e1 : (FloatKind.f64.format.order x x != some .eq) = false)
    (e2 : up = true → (FloatKind.f64.format.order nx x == some .lt) = false) (e3 : up = false → (FloatKind.f64.format.order nx x == some .gt) = false)
    (e4 : (FloatKind.f64.format.order nx x == some .eq) = false) (e5 : (FloatKind.f64.format.order nx x != some .eq) = true)
    (hf : floatOfInt .f64 n = nf)
    (d1 : (FloatKind.f64.format.order d 0 == some .gt) = false) (d2 : (FloatKind.f64.format.order d 4602678819172646912 == some .lt) = true)
    (d3 : (FloatKind.f64.format.order d 0 == some .eq) = true) (hm : m = n)
    (ha : double.add nf d = some s1) (hor : (FloatKind.f64.format.order s1 x == some .eq) = true ∨ ((FloatKind.f64.format.order s1 x == some .eq) = false ∧ ∃ s2, double.sub nf d = some s2 ∧ (FloatKind.f64.format.order s2 x == some .eq) = true)) :
    Calls Try.prog 3 #[.float .f64 x, .bool up] w fun e w' => e = .returned (.bool true) ∧ w' = w := by
  have HN : Hid (∀ w, Calls Try.prog 5 #[.float .f64 x, .bool up] w fun e w' => e = .returned (.float .f64 nx) ∧ w' = w) := hN
  have HR : Hid (∀ w, Calls Try.prog 6 #[.float .f64 x] w fun e w' => e = .returned (.tuple #[.int .i64 n, .float .f64 d, .int .i64 0]) ∧ w' = w) := hR
  have HV : Hid (∀ w, Calls Try.prog 9 #[.float .f64 nf] w fun e w' => e = .returned (.tuple #[.int .i64 n, .bool true]) ∧ w' = w) := hV
  have HX : Hid (∀ w, Calls Try.prog 9 #[.float .f64 x] w fun e w' => e = .returned (.tuple #[.int .i64 m, .bool true]) ∧ w' = w) := hX
  clear hN hR hV hX
  have g1 := add_run w _ _ _ ha
  clear ha
  have hnn : (n == n) = true := beq_self_eq_true n
  subst hm
  cases up
  · have e3 := e3 rfl
    have HB : Hid (∀ w, Calls Try.prog 5 #[.float .f64 nx, .bool true] w fun e w' => e = .returned (.float .f64 x3) ∧ w' = w) := hB
    clear e2 hB
    rcases hor with hor | ⟨ho, s2, hs, hq⟩
    · go_enter Try.func3, Try.ntmps3
      go_wp2_with (first | (go_at_call 4; refine (awake4 _).mono ?_; rintro e w' ⟨rfl, rfl⟩) | (go_at_call 5; with_reducible refine (HN.out _).mono ?_; rintro e w' ⟨rfl, rfl⟩) | (go_at_call 5; with_reducible refine (HB.out _).mono ?_; rintro e w' ⟨rfl, rfl⟩) | (go_at_call 6; refine (HR.out _).mono ?_; rintro e w' ⟨rfl, rfl⟩) | (go_at_call 8; refine (like8 _ _ _).mono ?_; rintro e w' ⟨rfl, rfl⟩) | (go_at_call 9; with_reducible refine (HV.out _).mono ?_; rintro e w' ⟨rfl, rfl⟩) | (go_at_call 9; with_reducible refine (HX.out _).mono ?_; rintro e w' ⟨rfl, rfl⟩))
      go_ret
      exact ⟨rfl, rfl⟩
    · have g2 := sub_run w _ _ _ hs
      clear hs
      go_enter Try.func3, Try.ntmps3
      go_wp2_with (first | (go_at_call 4; refine (awake4 _).mono ?_; rintro e w' ⟨rfl, rfl⟩) | (go_at_call 5; with_reducible refine (HN.out _).mono ?_; rintro e w' ⟨rfl, rfl⟩) | (go_at_call 5; with_reducible refine (HB.out _).mono ?_; rintro e w' ⟨rfl, rfl⟩) | (go_at_call 6; refine (HR.out _).mono ?_; rintro e w' ⟨rfl, rfl⟩) | (go_at_call 8; refine (like8 _ _ _).mono ?_; rintro e w' ⟨rfl, rfl⟩) | (go_at_call 9; with_reducible refine (HV.out _).mono ?_; rintro e w' ⟨rfl, rfl⟩) | (go_at_call 9; with_reducible refine (HX.out _).mono ?_; rintro e w' ⟨rfl, rfl⟩))
      go_ret
      exact ⟨rfl, rfl⟩
  · have e2 := e2 rfl
    have HB : Hid (∀ w, Calls Try.prog 5 #[.float .f64 nx, .bool false] w fun e w' => e = .returned (.float .f64 x3) ∧ w' = w) := hB
    clear e3 hB
    rcases hor with hor | ⟨ho, s2, hs, hq⟩
    · go_enter Try.func3, Try.ntmps3
      go_wp2_with (first | (go_at_call 4; refine (awake4 _).mono ?_; rintro e w' ⟨rfl, rfl⟩) | (go_at_call 5; with_reducible refine (HN.out _).mono ?_; rintro e w' ⟨rfl, rfl⟩) | (go_at_call 5; with_reducible refine (HB.out _).mono ?_; rintro e w' ⟨rfl, rfl⟩) | (go_at_call 6; refine (HR.out _).mono ?_; rintro e w' ⟨rfl, rfl⟩) | (go_at_call 8; refine (like8 _ _ _).mono ?_; rintro e w' ⟨rfl, rfl⟩) | (go_at_call 9; with_reducible refine (HV.out _).mono ?_; rintro e w' ⟨rfl, rfl⟩) | (go_at_call 9; with_reducible refine (HX.out _).mono ?_; rintro e w' ⟨rfl, rfl⟩))
      go_ret
      exact ⟨rfl, rfl⟩
    · have g2 := sub_run w _ _ _ hs
      clear hs
      go_enter Try.func3, Try.ntmps3
      go_wp2_with (first | (go_at_call 4; refine (awake4 _).mono ?_; rintro e w' ⟨rfl, rfl⟩) | (go_at_call 5; with_reducible refine (HN.out _).mono ?_; rintro e w' ⟨rfl, rfl⟩) | (go_at_call 5; with_reducible refine (HB.out _).mono ?_; rintro e w' ⟨rfl, rfl⟩) | (go_at_call 6; refine (HR.out _).mono ?_; rintro e w' ⟨rfl, rfl⟩) | (go_at_call 8; refine (like8 _ _ _).mono ?_; rintro e w' ⟨rfl, rfl⟩) | (go_at_call 9; with_reducible refine (HV.out _).mono ?_; rintro e w' ⟨rfl, rfl⟩) | (go_at_call 9; with_reducible refine (HX.out _).mono ?_; rintro e w' ⟨rfl, rfl⟩))
      go_ret
      exact ⟨rfl, rfl⟩
end Go.Proofs.Yteeppbkkgleagab
