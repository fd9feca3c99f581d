import Derived.Test.YteeppbkkgleagaaT2
namespace Go.Proofs.Yteeppbkkgleagaa
open Go.RowKit
open Ieee
set_option linter.unusedVariables false

theorem turned_true_true_true (a b na nb : Nat) (A A2 A3 A4 A5 M M2 M3 M4 D D2 : Option Nat) (w : World) (ha : negN a = na) (hb : negN b = nb)
    (hA1 : ∀ w, Calls Try.prog 11 #[.float .f64 a, .float .f64 b, .bool true] w fun e w' => ∃ v, e = .returned (.float .f64 v) ∧ OkR A v ∧ Grown w w')
    (hA2 : ∀ w, Calls Try.prog 11 #[.float .f64 na, .float .f64 nb, .bool false] w fun e w' => ∃ v, e = .returned (.float .f64 v) ∧ OkR A2 v ∧ Grown w w')
    (hA3 : ∀ w, Calls Try.prog 11 #[.float .f64 b, .float .f64 a, .bool true] w fun e w' => ∃ v, e = .returned (.float .f64 v) ∧ OkR A3 v ∧ Grown w w')
    (hA4 : ∀ w, Calls Try.prog 11 #[.float .f64 a, .float .f64 nb, .bool true] w fun e w' => ∃ v, e = .returned (.float .f64 v) ∧ OkR A4 v ∧ Grown w w')
    (hA5 : ∀ w, Calls Try.prog 11 #[.float .f64 a, .float .f64 b, .bool false] w fun e w' => ∃ v, e = .returned (.float .f64 v) ∧ OkR A5 v ∧ Grown w w')
    (hM1 : ∀ w, Calls Try.prog 15 #[.float .f64 a, .float .f64 b, .bool true] w fun e w' => ∃ v, e = .returned (.float .f64 v) ∧ OkR M v ∧ Grown w w')
    (hM2 : ∀ w, Calls Try.prog 15 #[.float .f64 na, .float .f64 b, .bool false] w fun e w' => ∃ v, e = .returned (.float .f64 v) ∧ OkR M2 v ∧ Grown w w')
    (hM3 : ∀ w, Calls Try.prog 15 #[.float .f64 b, .float .f64 a, .bool true] w fun e w' => ∃ v, e = .returned (.float .f64 v) ∧ OkR M3 v ∧ Grown w w')
    (hM4 : ∀ w, Calls Try.prog 15 #[.float .f64 a, .float .f64 b, .bool false] w fun e w' => ∃ v, e = .returned (.float .f64 v) ∧ OkR M4 v ∧ Grown w w')
    (hD1 : ∀ w, Calls Try.prog 17 #[.float .f64 a, .float .f64 b, .bool true] w fun e w' => ∃ v, e = .returned (.float .f64 v) ∧ OkR D v ∧ Grown w w')
    (hD2 : ∀ w, Calls Try.prog 17 #[.float .f64 na, .float .f64 b, .bool false] w fun e w' => ∃ v, e = .returned (.float .f64 v) ∧ OkR D2 v ∧ Grown w w')
    (hS1 : ∀ w, Calls Try.prog 13 #[.float .f64 a, .float .f64 b, .bool true] w fun e w' => ∃ v, e = .returned (.float .f64 v) ∧ OkR A4 v ∧ Grown w w')
    (f1 : ∀ v v', OkR A v → OkR A2 v' → sameB (negN v) v' = true) (f2 : ∀ v v', OkR M v → OkR M2 v' → sameB (negN v) v' = true) (f3 : ∀ v v', OkR D v → OkR D2 v' → sameB (negN v) v' = true)
    (f4 : ∀ v v', OkR A v → OkR A3 v' → sameB v v' = true) (f5 : ∀ v v', OkR M v → OkR M3 v' → sameB v v' = true) (f6 : ∀ v v', OkR A4 v → OkR A4 v' → sameB v v' = true)
    (p1 : ∀ x v, OkR (double.add a b) x → OkR A v → likeB x v = true) (p2 : true = false → ∀ x v, OkR (double.add a b) x → OkR A5 v → likeB x v = true)
    (q1 : ∀ x v, OkR (double.mul a b) x → OkR M v → likeB x v = true) (q2 : true = false → ∀ x v, OkR (double.mul a b) x → OkR M4 v → likeB x v = true) :
    Calls Try.prog 7 #[.float .f64 a, .float .f64 b, .bool true] w fun e w' => e = .returned (.bool true) ∧ Grown w w' := by
  have HA1 : Hid (∀ w, Calls Try.prog 11 #[.float .f64 a, .float .f64 b, .bool true] w fun e w' => ∃ v, e = .returned (.float .f64 v) ∧ OkR A v ∧ Grown w w') := hA1
  have HA2 : Hid (∀ w, Calls Try.prog 11 #[.float .f64 na, .float .f64 nb, .bool false] w fun e w' => ∃ v, e = .returned (.float .f64 v) ∧ OkR A2 v ∧ Grown w w') := hA2
  have HA3 : Hid (∀ w, Calls Try.prog 11 #[.float .f64 b, .float .f64 a, .bool true] w fun e w' => ∃ v, e = .returned (.float .f64 v) ∧ OkR A3 v ∧ Grown w w') := hA3
  have HA4 : Hid (∀ w, Calls Try.prog 11 #[.float .f64 a, .float .f64 nb, .bool true] w fun e w' => ∃ v, e = .returned (.float .f64 v) ∧ OkR A4 v ∧ Grown w w') := hA4
  have HA5 : Hid (∀ w, Calls Try.prog 11 #[.float .f64 a, .float .f64 b, .bool false] w fun e w' => ∃ v, e = .returned (.float .f64 v) ∧ OkR A5 v ∧ Grown w w') := hA5
  have HM1 : Hid (∀ w, Calls Try.prog 15 #[.float .f64 a, .float .f64 b, .bool true] w fun e w' => ∃ v, e = .returned (.float .f64 v) ∧ OkR M v ∧ Grown w w') := hM1
  have HM2 : Hid (∀ w, Calls Try.prog 15 #[.float .f64 na, .float .f64 b, .bool false] w fun e w' => ∃ v, e = .returned (.float .f64 v) ∧ OkR M2 v ∧ Grown w w') := hM2
  have HM3 : Hid (∀ w, Calls Try.prog 15 #[.float .f64 b, .float .f64 a, .bool true] w fun e w' => ∃ v, e = .returned (.float .f64 v) ∧ OkR M3 v ∧ Grown w w') := hM3
  have HM4 : Hid (∀ w, Calls Try.prog 15 #[.float .f64 a, .float .f64 b, .bool false] w fun e w' => ∃ v, e = .returned (.float .f64 v) ∧ OkR M4 v ∧ Grown w w') := hM4
  have HD1 : Hid (∀ w, Calls Try.prog 17 #[.float .f64 a, .float .f64 b, .bool true] w fun e w' => ∃ v, e = .returned (.float .f64 v) ∧ OkR D v ∧ Grown w w') := hD1
  have HD2 : Hid (∀ w, Calls Try.prog 17 #[.float .f64 na, .float .f64 b, .bool false] w fun e w' => ∃ v, e = .returned (.float .f64 v) ∧ OkR D2 v ∧ Grown w w') := hD2
  have HS1 : Hid (∀ w, Calls Try.prog 13 #[.float .f64 a, .float .f64 b, .bool true] w fun e w' => ∃ v, e = .returned (.float .f64 v) ∧ OkR A4 v ∧ Grown w w') := hS1
  clear hA1 hA2 hA3 hA4 hA5 hM1 hM2 hM3 hM4 hD1 hD2 hS1
  have F1 := hidden f1
  have F2 := hidden f2
  have F3 := hidden f3
  have F4 := hidden f4
  have F5 := hidden f5
  have F6 := hidden f6
  have P1 := hidden p1
  have Q1 := hidden q1
  clear f1 f2 f3 f4 f5 f6 p1 p2 q1 q2
  have gn := neg_run
  go_enter Try.func7, Try.ntmps7
  go_wp2_with (first | (go_at_call 9; refine (awake4 _).mono ?_; rintro e w' ⟨rfl, rfl⟩) | (go_at_call 11; with_reducible refine (HA1.out _).mono ?_; rintro e w' ⟨vA1, rfl, oA1, gA1⟩) | (go_at_call 11; with_reducible refine (HA2.out _).mono ?_; rintro e w' ⟨vA2, rfl, oA2, gA2⟩) | (go_at_call 11; with_reducible refine (HA3.out _).mono ?_; rintro e w' ⟨vA3, rfl, oA3, gA3⟩) | (go_at_call 11; with_reducible refine (HA4.out _).mono ?_; rintro e w' ⟨vA4, rfl, oA4, gA4⟩) | (go_at_call 11; with_reducible refine (HA5.out _).mono ?_; rintro e w' ⟨vA5, rfl, oA5, gA5⟩) | (go_at_call 15; with_reducible refine (HM1.out _).mono ?_; rintro e w' ⟨vM1, rfl, oM1, gM1⟩) | (go_at_call 15; with_reducible refine (HM2.out _).mono ?_; rintro e w' ⟨vM2, rfl, oM2, gM2⟩) | (go_at_call 15; with_reducible refine (HM3.out _).mono ?_; rintro e w' ⟨vM3, rfl, oM3, gM3⟩) | (go_at_call 15; with_reducible refine (HM4.out _).mono ?_; rintro e w' ⟨vM4, rfl, oM4, gM4⟩) | (go_at_call 17; with_reducible refine (HD1.out _).mono ?_; rintro e w' ⟨vD1, rfl, oD1, gD1⟩) | (go_at_call 17; with_reducible refine (HD2.out _).mono ?_; rintro e w' ⟨vD2, rfl, oD2, gD2⟩) | (go_at_call 13; with_reducible refine (HS1.out _).mono ?_; rintro e w' ⟨vS1, rfl, oS1, gS1⟩) | (go_at_call 10; with_reducible refine (same_true _ _ _ (F1.out _ _ oA1 oA2)).mono ?_; rintro e w' ⟨rfl, rfl⟩) | (go_at_call 10; with_reducible refine (same_true _ _ _ (F2.out _ _ oM1 oM2)).mono ?_; rintro e w' ⟨rfl, rfl⟩) | (go_at_call 10; with_reducible refine (same_true _ _ _ (F3.out _ _ oD1 oD2)).mono ?_; rintro e w' ⟨rfl, rfl⟩) | (go_at_call 10; with_reducible refine (same_true _ _ _ (F4.out _ _ oA1 oA3)).mono ?_; rintro e w' ⟨rfl, rfl⟩) | (go_at_call 10; with_reducible refine (same_true _ _ _ (F5.out _ _ oM1 oM3)).mono ?_; rintro e w' ⟨rfl, rfl⟩) | (go_at_call 10; with_reducible refine (same_true _ _ _ (F6.out _ _ oS1 oA4)).mono ?_; rintro e w' ⟨rfl, rfl⟩))
  cases hs : double.add a b with
  | none =>
    have eA := fun w => nanOf_run .add (by simp) 22 a b w hs
    have oxA : ∀ w, OkR (double.add a b) (nanOf a b w) := fun w => by rw [hs]; exact nanOf_W a b w
    cases hm : double.mul a b with
    | none =>
      have eM := fun w => nanOf_run .mul (by simp) 22 a b w hm
      have oxM : ∀ w, OkR (double.mul a b) (nanOf a b w) := fun w => by rw [hm]; exact nanOf_W a b w
      clear hm hs
      have gA := hidden (grown_trans (grown_trans (grown_trans (grown_trans (grown_trans (grown_trans (grown_trans (grown_trans (grown_trans gA1 gM1) gD1) gA2) gM2) gD2) gA3) gM3) gS1) gA4)
      clear gA1 gM1 gD1 gA2 gM2 gD2 gA3 gM3 gS1 gA4
      rw [eA]
      simp only [Result.andThen]
      rw [Oper.upon_value]
      go_wp2_with (first | (go_at_call 11; with_reducible refine (HA5.out _).mono ?_; rintro e w' ⟨vA5, rfl, oA5, gA5⟩) | (go_at_call 15; with_reducible refine (HM4.out _).mono ?_; rintro e w' ⟨vM4, rfl, oM4, gM4⟩) | (go_at_call 36; with_reducible refine (like_is _ _ _ _ (P1.out _ _ (oxA _) oA1)).mono ?_; rintro e w' ⟨rfl, rfl⟩) | (go_at_call 36; with_reducible refine (like_is _ _ _ _ (Q1.out _ _ (oxM _) oM1)).mono ?_; rintro e w' ⟨rfl, rfl⟩))
      go_ret
      exact ⟨rfl, grown_trans (grown_trans (Grown.drew (Grown.drew gA.out)) gA5) gM4⟩
    | some y =>
      have eM := fun w => mul_run w a b y hm
      have oxM : OkR (double.mul a b) y := by rw [hm]; rfl
      clear hm hs
      have gA := hidden (grown_trans (grown_trans (grown_trans (grown_trans (grown_trans (grown_trans (grown_trans (grown_trans (grown_trans gA1 gM1) gD1) gA2) gM2) gD2) gA3) gM3) gS1) gA4)
      clear gA1 gM1 gD1 gA2 gM2 gD2 gA3 gM3 gS1 gA4
      rw [eA]
      simp only [Result.andThen]
      rw [Oper.upon_value]
      go_wp2_with (first | (go_at_call 11; with_reducible refine (HA5.out _).mono ?_; rintro e w' ⟨vA5, rfl, oA5, gA5⟩) | (go_at_call 15; with_reducible refine (HM4.out _).mono ?_; rintro e w' ⟨vM4, rfl, oM4, gM4⟩) | (go_at_call 36; with_reducible refine (like_is _ _ _ _ (P1.out _ _ (oxA _) oA1)).mono ?_; rintro e w' ⟨rfl, rfl⟩) | (go_at_call 36; with_reducible refine (like_is _ _ _ _ (Q1.out _ _ oxM oM1)).mono ?_; rintro e w' ⟨rfl, rfl⟩))
      go_ret
      exact ⟨rfl, grown_trans (grown_trans (Grown.drew gA.out) gA5) gM4⟩
  | some x =>
    have eA := fun w => add_run w a b x hs
    have oxA : OkR (double.add a b) x := by rw [hs]; rfl
    cases hm : double.mul a b with
    | none =>
      have eM := fun w => nanOf_run .mul (by simp) 22 a b w hm
      have oxM : ∀ w, OkR (double.mul a b) (nanOf a b w) := fun w => by rw [hm]; exact nanOf_W a b w
      clear hm hs
      have gA := hidden (grown_trans (grown_trans (grown_trans (grown_trans (grown_trans (grown_trans (grown_trans (grown_trans (grown_trans gA1 gM1) gD1) gA2) gM2) gD2) gA3) gM3) gS1) gA4)
      clear gA1 gM1 gD1 gA2 gM2 gD2 gA3 gM3 gS1 gA4
      rw [eA]
      simp only [Result.andThen]
      rw [Oper.upon_value]
      go_wp2_with (first | (go_at_call 11; with_reducible refine (HA5.out _).mono ?_; rintro e w' ⟨vA5, rfl, oA5, gA5⟩) | (go_at_call 15; with_reducible refine (HM4.out _).mono ?_; rintro e w' ⟨vM4, rfl, oM4, gM4⟩) | (go_at_call 36; with_reducible refine (like_is _ _ _ _ (P1.out _ _ oxA oA1)).mono ?_; rintro e w' ⟨rfl, rfl⟩) | (go_at_call 36; with_reducible refine (like_is _ _ _ _ (Q1.out _ _ (oxM _) oM1)).mono ?_; rintro e w' ⟨rfl, rfl⟩))
      go_ret
      exact ⟨rfl, grown_trans (grown_trans (Grown.drew gA.out) gA5) gM4⟩
    | some y =>
      have eM := fun w => mul_run w a b y hm
      have oxM : OkR (double.mul a b) y := by rw [hm]; rfl
      clear hm hs
      have gA := hidden (grown_trans (grown_trans (grown_trans (grown_trans (grown_trans (grown_trans (grown_trans (grown_trans (grown_trans gA1 gM1) gD1) gA2) gM2) gD2) gA3) gM3) gS1) gA4)
      clear gA1 gM1 gD1 gA2 gM2 gD2 gA3 gM3 gS1 gA4
      rw [eA]
      simp only [Result.andThen]
      rw [Oper.upon_value]
      go_wp2_with (first | (go_at_call 11; with_reducible refine (HA5.out _).mono ?_; rintro e w' ⟨vA5, rfl, oA5, gA5⟩) | (go_at_call 15; with_reducible refine (HM4.out _).mono ?_; rintro e w' ⟨vM4, rfl, oM4, gM4⟩) | (go_at_call 36; with_reducible refine (like_is _ _ _ _ (P1.out _ _ oxA oA1)).mono ?_; rintro e w' ⟨rfl, rfl⟩) | (go_at_call 36; with_reducible refine (like_is _ _ _ _ (Q1.out _ _ oxM oM1)).mono ?_; rintro e w' ⟨rfl, rfl⟩))
      go_ret
      exact ⟨rfl, grown_trans (grown_trans gA.out gA5) gM4⟩
theorem turned_true_true_false (a b na nb : Nat) (A A2 A3 A4 A5 M M2 M3 M4 D D2 : Option Nat) (w : World) (ha : negN a = na) (hb : negN b = nb)
    (hA1 : ∀ w, Calls Try.prog 11 #[.float .f64 a, .float .f64 b, .bool true] w fun e w' => ∃ v, e = .returned (.float .f64 v) ∧ OkR A v ∧ Grown w w')
    (hA2 : ∀ w, Calls Try.prog 11 #[.float .f64 na, .float .f64 nb, .bool false] w fun e w' => ∃ v, e = .returned (.float .f64 v) ∧ OkR A2 v ∧ Grown w w')
    (hA3 : ∀ w, Calls Try.prog 11 #[.float .f64 b, .float .f64 a, .bool true] w fun e w' => ∃ v, e = .returned (.float .f64 v) ∧ OkR A3 v ∧ Grown w w')
    (hA4 : ∀ w, Calls Try.prog 11 #[.float .f64 a, .float .f64 nb, .bool true] w fun e w' => ∃ v, e = .returned (.float .f64 v) ∧ OkR A4 v ∧ Grown w w')
    (hA5 : ∀ w, Calls Try.prog 11 #[.float .f64 a, .float .f64 b, .bool false] w fun e w' => ∃ v, e = .returned (.float .f64 v) ∧ OkR A5 v ∧ Grown w w')
    (hM1 : ∀ w, Calls Try.prog 15 #[.float .f64 a, .float .f64 b, .bool true] w fun e w' => ∃ v, e = .returned (.float .f64 v) ∧ OkR M v ∧ Grown w w')
    (hM2 : ∀ w, Calls Try.prog 15 #[.float .f64 na, .float .f64 b, .bool false] w fun e w' => ∃ v, e = .returned (.float .f64 v) ∧ OkR M2 v ∧ Grown w w')
    (hM3 : ∀ w, Calls Try.prog 15 #[.float .f64 b, .float .f64 a, .bool true] w fun e w' => ∃ v, e = .returned (.float .f64 v) ∧ OkR M3 v ∧ Grown w w')
    (hM4 : ∀ w, Calls Try.prog 15 #[.float .f64 a, .float .f64 b, .bool false] w fun e w' => ∃ v, e = .returned (.float .f64 v) ∧ OkR M4 v ∧ Grown w w')
    (hD1 : ∀ w, Calls Try.prog 17 #[.float .f64 a, .float .f64 b, .bool true] w fun e w' => ∃ v, e = .returned (.float .f64 v) ∧ OkR D v ∧ Grown w w')
    (hD2 : ∀ w, Calls Try.prog 17 #[.float .f64 na, .float .f64 b, .bool false] w fun e w' => ∃ v, e = .returned (.float .f64 v) ∧ OkR D2 v ∧ Grown w w')
    (hS1 : ∀ w, Calls Try.prog 13 #[.float .f64 a, .float .f64 b, .bool true] w fun e w' => ∃ v, e = .returned (.float .f64 v) ∧ OkR A4 v ∧ Grown w w')
    (f1 : ∀ v v', OkR A v → OkR A2 v' → sameB (negN v) v' = true) (f2 : ∀ v v', OkR M v → OkR M2 v' → sameB (negN v) v' = true) (f3 : ∀ v v', OkR D v → OkR D2 v' → sameB (negN v) v' = true)
    (f4 : ∀ v v', OkR A v → OkR A3 v' → sameB v v' = true) (f5 : ∀ v v', OkR M v → OkR M3 v' → sameB v v' = true) (f6 : ∀ v v', OkR A4 v → OkR A4 v' → sameB v v' = true)
    (p1 : ∀ x v, OkR (double.add a b) x → OkR A v → likeB x v = true) (p2 : true = false → ∀ x v, OkR (double.add a b) x → OkR A5 v → likeB x v = true)
    (q1 : ∀ x v, OkR (double.mul a b) x → OkR M v → likeB x v = false) (q2 : false = false → ∀ x v, OkR (double.mul a b) x → OkR M4 v → likeB x v = true) :
    Calls Try.prog 7 #[.float .f64 a, .float .f64 b, .bool true] w fun e w' => e = .returned (.bool true) ∧ Grown w w' := by
  have HA1 : Hid (∀ w, Calls Try.prog 11 #[.float .f64 a, .float .f64 b, .bool true] w fun e w' => ∃ v, e = .returned (.float .f64 v) ∧ OkR A v ∧ Grown w w') := hA1
  have HA2 : Hid (∀ w, Calls Try.prog 11 #[.float .f64 na, .float .f64 nb, .bool false] w fun e w' => ∃ v, e = .returned (.float .f64 v) ∧ OkR A2 v ∧ Grown w w') := hA2
  have HA3 : Hid (∀ w, Calls Try.prog 11 #[.float .f64 b, .float .f64 a, .bool true] w fun e w' => ∃ v, e = .returned (.float .f64 v) ∧ OkR A3 v ∧ Grown w w') := hA3
  have HA4 : Hid (∀ w, Calls Try.prog 11 #[.float .f64 a, .float .f64 nb, .bool true] w fun e w' => ∃ v, e = .returned (.float .f64 v) ∧ OkR A4 v ∧ Grown w w') := hA4
  have HA5 : Hid (∀ w, Calls Try.prog 11 #[.float .f64 a, .float .f64 b, .bool false] w fun e w' => ∃ v, e = .returned (.float .f64 v) ∧ OkR A5 v ∧ Grown w w') := hA5
  have HM1 : Hid (∀ w, Calls Try.prog 15 #[.float .f64 a, .float .f64 b, .bool true] w fun e w' => ∃ v, e = .returned (.float .f64 v) ∧ OkR M v ∧ Grown w w') := hM1
  have HM2 : Hid (∀ w, Calls Try.prog 15 #[.float .f64 na, .float .f64 b, .bool false] w fun e w' => ∃ v, e = .returned (.float .f64 v) ∧ OkR M2 v ∧ Grown w w') := hM2
  have HM3 : Hid (∀ w, Calls Try.prog 15 #[.float .f64 b, .float .f64 a, .bool true] w fun e w' => ∃ v, e = .returned (.float .f64 v) ∧ OkR M3 v ∧ Grown w w') := hM3
  have HM4 : Hid (∀ w, Calls Try.prog 15 #[.float .f64 a, .float .f64 b, .bool false] w fun e w' => ∃ v, e = .returned (.float .f64 v) ∧ OkR M4 v ∧ Grown w w') := hM4
  have HD1 : Hid (∀ w, Calls Try.prog 17 #[.float .f64 a, .float .f64 b, .bool true] w fun e w' => ∃ v, e = .returned (.float .f64 v) ∧ OkR D v ∧ Grown w w') := hD1
  have HD2 : Hid (∀ w, Calls Try.prog 17 #[.float .f64 na, .float .f64 b, .bool false] w fun e w' => ∃ v, e = .returned (.float .f64 v) ∧ OkR D2 v ∧ Grown w w') := hD2
  have HS1 : Hid (∀ w, Calls Try.prog 13 #[.float .f64 a, .float .f64 b, .bool true] w fun e w' => ∃ v, e = .returned (.float .f64 v) ∧ OkR A4 v ∧ Grown w w') := hS1
  clear hA1 hA2 hA3 hA4 hA5 hM1 hM2 hM3 hM4 hD1 hD2 hS1
  have F1 := hidden f1
  have F2 := hidden f2
  have F3 := hidden f3
  have F4 := hidden f4
  have F5 := hidden f5
  have F6 := hidden f6
  have P1 := hidden p1
  have Q1 := hidden q1
  have Q2 := hidden (q2 rfl)
  clear f1 f2 f3 f4 f5 f6 p1 p2 q1 q2
  have gn := neg_run
  go_enter Try.func7, Try.ntmps7
  go_wp2_with (first | (go_at_call 9; refine (awake4 _).mono ?_; rintro e w' ⟨rfl, rfl⟩) | (go_at_call 11; with_reducible refine (HA1.out _).mono ?_; rintro e w' ⟨vA1, rfl, oA1, gA1⟩) | (go_at_call 11; with_reducible refine (HA2.out _).mono ?_; rintro e w' ⟨vA2, rfl, oA2, gA2⟩) | (go_at_call 11; with_reducible refine (HA3.out _).mono ?_; rintro e w' ⟨vA3, rfl, oA3, gA3⟩) | (go_at_call 11; with_reducible refine (HA4.out _).mono ?_; rintro e w' ⟨vA4, rfl, oA4, gA4⟩) | (go_at_call 11; with_reducible refine (HA5.out _).mono ?_; rintro e w' ⟨vA5, rfl, oA5, gA5⟩) | (go_at_call 15; with_reducible refine (HM1.out _).mono ?_; rintro e w' ⟨vM1, rfl, oM1, gM1⟩) | (go_at_call 15; with_reducible refine (HM2.out _).mono ?_; rintro e w' ⟨vM2, rfl, oM2, gM2⟩) | (go_at_call 15; with_reducible refine (HM3.out _).mono ?_; rintro e w' ⟨vM3, rfl, oM3, gM3⟩) | (go_at_call 15; with_reducible refine (HM4.out _).mono ?_; rintro e w' ⟨vM4, rfl, oM4, gM4⟩) | (go_at_call 17; with_reducible refine (HD1.out _).mono ?_; rintro e w' ⟨vD1, rfl, oD1, gD1⟩) | (go_at_call 17; with_reducible refine (HD2.out _).mono ?_; rintro e w' ⟨vD2, rfl, oD2, gD2⟩) | (go_at_call 13; with_reducible refine (HS1.out _).mono ?_; rintro e w' ⟨vS1, rfl, oS1, gS1⟩) | (go_at_call 10; with_reducible refine (same_true _ _ _ (F1.out _ _ oA1 oA2)).mono ?_; rintro e w' ⟨rfl, rfl⟩) | (go_at_call 10; with_reducible refine (same_true _ _ _ (F2.out _ _ oM1 oM2)).mono ?_; rintro e w' ⟨rfl, rfl⟩) | (go_at_call 10; with_reducible refine (same_true _ _ _ (F3.out _ _ oD1 oD2)).mono ?_; rintro e w' ⟨rfl, rfl⟩) | (go_at_call 10; with_reducible refine (same_true _ _ _ (F4.out _ _ oA1 oA3)).mono ?_; rintro e w' ⟨rfl, rfl⟩) | (go_at_call 10; with_reducible refine (same_true _ _ _ (F5.out _ _ oM1 oM3)).mono ?_; rintro e w' ⟨rfl, rfl⟩) | (go_at_call 10; with_reducible refine (same_true _ _ _ (F6.out _ _ oS1 oA4)).mono ?_; rintro e w' ⟨rfl, rfl⟩))
  cases hs : double.add a b with
  | none =>
    have eA := fun w => nanOf_run .add (by simp) 22 a b w hs
    have oxA : ∀ w, OkR (double.add a b) (nanOf a b w) := fun w => by rw [hs]; exact nanOf_W a b w
    cases hm : double.mul a b with
    | none =>
      have eM := fun w => nanOf_run .mul (by simp) 22 a b w hm
      have oxM : ∀ w, OkR (double.mul a b) (nanOf a b w) := fun w => by rw [hm]; exact nanOf_W a b w
      clear hm hs
      have gA := hidden (grown_trans (grown_trans (grown_trans (grown_trans (grown_trans (grown_trans (grown_trans (grown_trans (grown_trans gA1 gM1) gD1) gA2) gM2) gD2) gA3) gM3) gS1) gA4)
      clear gA1 gM1 gD1 gA2 gM2 gD2 gA3 gM3 gS1 gA4
      rw [eA]
      simp only [Result.andThen]
      rw [Oper.upon_value]
      go_wp2_with (first | (go_at_call 11; with_reducible refine (HA5.out _).mono ?_; rintro e w' ⟨vA5, rfl, oA5, gA5⟩) | (go_at_call 15; with_reducible refine (HM4.out _).mono ?_; rintro e w' ⟨vM4, rfl, oM4, gM4⟩) | (go_at_call 36; with_reducible refine (like_is _ _ _ _ (P1.out _ _ (oxA _) oA1)).mono ?_; rintro e w' ⟨rfl, rfl⟩) | (go_at_call 36; with_reducible refine (like_is _ _ _ _ (Q1.out _ _ (oxM _) oM1)).mono ?_; rintro e w' ⟨rfl, rfl⟩) | (go_at_call 36; with_reducible refine (like_is _ _ _ _ (Q2.out _ _ (oxM _) oM4)).mono ?_; rintro e w' ⟨rfl, rfl⟩))
      go_ret
      exact ⟨rfl, grown_trans (grown_trans (Grown.drew (Grown.drew gA.out)) gA5) gM4⟩
    | some y =>
      have eM := fun w => mul_run w a b y hm
      have oxM : OkR (double.mul a b) y := by rw [hm]; rfl
      clear hm hs
      have gA := hidden (grown_trans (grown_trans (grown_trans (grown_trans (grown_trans (grown_trans (grown_trans (grown_trans (grown_trans gA1 gM1) gD1) gA2) gM2) gD2) gA3) gM3) gS1) gA4)
      clear gA1 gM1 gD1 gA2 gM2 gD2 gA3 gM3 gS1 gA4
      rw [eA]
      simp only [Result.andThen]
      rw [Oper.upon_value]
      go_wp2_with (first | (go_at_call 11; with_reducible refine (HA5.out _).mono ?_; rintro e w' ⟨vA5, rfl, oA5, gA5⟩) | (go_at_call 15; with_reducible refine (HM4.out _).mono ?_; rintro e w' ⟨vM4, rfl, oM4, gM4⟩) | (go_at_call 36; with_reducible refine (like_is _ _ _ _ (P1.out _ _ (oxA _) oA1)).mono ?_; rintro e w' ⟨rfl, rfl⟩) | (go_at_call 36; with_reducible refine (like_is _ _ _ _ (Q1.out _ _ oxM oM1)).mono ?_; rintro e w' ⟨rfl, rfl⟩) | (go_at_call 36; with_reducible refine (like_is _ _ _ _ (Q2.out _ _ oxM oM4)).mono ?_; rintro e w' ⟨rfl, rfl⟩))
      go_ret
      exact ⟨rfl, grown_trans (grown_trans (Grown.drew gA.out) gA5) gM4⟩
  | some x =>
    have eA := fun w => add_run w a b x hs
    have oxA : OkR (double.add a b) x := by rw [hs]; rfl
    cases hm : double.mul a b with
    | none =>
      have eM := fun w => nanOf_run .mul (by simp) 22 a b w hm
      have oxM : ∀ w, OkR (double.mul a b) (nanOf a b w) := fun w => by rw [hm]; exact nanOf_W a b w
      clear hm hs
      have gA := hidden (grown_trans (grown_trans (grown_trans (grown_trans (grown_trans (grown_trans (grown_trans (grown_trans (grown_trans gA1 gM1) gD1) gA2) gM2) gD2) gA3) gM3) gS1) gA4)
      clear gA1 gM1 gD1 gA2 gM2 gD2 gA3 gM3 gS1 gA4
      rw [eA]
      simp only [Result.andThen]
      rw [Oper.upon_value]
      go_wp2_with (first | (go_at_call 11; with_reducible refine (HA5.out _).mono ?_; rintro e w' ⟨vA5, rfl, oA5, gA5⟩) | (go_at_call 15; with_reducible refine (HM4.out _).mono ?_; rintro e w' ⟨vM4, rfl, oM4, gM4⟩) | (go_at_call 36; with_reducible refine (like_is _ _ _ _ (P1.out _ _ oxA oA1)).mono ?_; rintro e w' ⟨rfl, rfl⟩) | (go_at_call 36; with_reducible refine (like_is _ _ _ _ (Q1.out _ _ (oxM _) oM1)).mono ?_; rintro e w' ⟨rfl, rfl⟩) | (go_at_call 36; with_reducible refine (like_is _ _ _ _ (Q2.out _ _ (oxM _) oM4)).mono ?_; rintro e w' ⟨rfl, rfl⟩))
      go_ret
      exact ⟨rfl, grown_trans (grown_trans (Grown.drew gA.out) gA5) gM4⟩
    | some y =>
      have eM := fun w => mul_run w a b y hm
      have oxM : OkR (double.mul a b) y := by rw [hm]; rfl
      clear hm hs
      have gA := hidden (grown_trans (grown_trans (grown_trans (grown_trans (grown_trans (grown_trans (grown_trans (grown_trans (grown_trans gA1 gM1) gD1) gA2) gM2) gD2) gA3) gM3) gS1) gA4)
      clear gA1 gM1 gD1 gA2 gM2 gD2 gA3 gM3 gS1 gA4
      rw [eA]
      simp only [Result.andThen]
      rw [Oper.upon_value]
      go_wp2_with (first | (go_at_call 11; with_reducible refine (HA5.out _).mono ?_; rintro e w' ⟨vA5, rfl, oA5, gA5⟩) | (go_at_call 15; with_reducible refine (HM4.out _).mono ?_; rintro e w' ⟨vM4, rfl, oM4, gM4⟩) | (go_at_call 36; with_reducible refine (like_is _ _ _ _ (P1.out _ _ oxA oA1)).mono ?_; rintro e w' ⟨rfl, rfl⟩) | (go_at_call 36; with_reducible refine (like_is _ _ _ _ (Q1.out _ _ oxM oM1)).mono ?_; rintro e w' ⟨rfl, rfl⟩) | (go_at_call 36; with_reducible refine (like_is _ _ _ _ (Q2.out _ _ oxM oM4)).mono ?_; rintro e w' ⟨rfl, rfl⟩))
      go_ret
      exact ⟨rfl, grown_trans (grown_trans gA.out gA5) gM4⟩
theorem turned_true_false_true (a b na nb : Nat) (A A2 A3 A4 A5 M M2 M3 M4 D D2 : Option Nat) (w : World) (ha : negN a = na) (hb : negN b = nb)
    (hA1 : ∀ w, Calls Try.prog 11 #[.float .f64 a, .float .f64 b, .bool true] w fun e w' => ∃ v, e = .returned (.float .f64 v) ∧ OkR A v ∧ Grown w w')
    (hA2 : ∀ w, Calls Try.prog 11 #[.float .f64 na, .float .f64 nb, .bool false] w fun e w' => ∃ v, e = .returned (.float .f64 v) ∧ OkR A2 v ∧ Grown w w')
    (hA3 : ∀ w, Calls Try.prog 11 #[.float .f64 b, .float .f64 a, .bool true] w fun e w' => ∃ v, e = .returned (.float .f64 v) ∧ OkR A3 v ∧ Grown w w')
    (hA4 : ∀ w, Calls Try.prog 11 #[.float .f64 a, .float .f64 nb, .bool true] w fun e w' => ∃ v, e = .returned (.float .f64 v) ∧ OkR A4 v ∧ Grown w w')
    (hA5 : ∀ w, Calls Try.prog 11 #[.float .f64 a, .float .f64 b, .bool false] w fun e w' => ∃ v, e = .returned (.float .f64 v) ∧ OkR A5 v ∧ Grown w w')
    (hM1 : ∀ w, Calls Try.prog 15 #[.float .f64 a, .float .f64 b, .bool true] w fun e w' => ∃ v, e = .returned (.float .f64 v) ∧ OkR M v ∧ Grown w w')
    (hM2 : ∀ w, Calls Try.prog 15 #[.float .f64 na, .float .f64 b, .bool false] w fun e w' => ∃ v, e = .returned (.float .f64 v) ∧ OkR M2 v ∧ Grown w w')
    (hM3 : ∀ w, Calls Try.prog 15 #[.float .f64 b, .float .f64 a, .bool true] w fun e w' => ∃ v, e = .returned (.float .f64 v) ∧ OkR M3 v ∧ Grown w w')
    (hM4 : ∀ w, Calls Try.prog 15 #[.float .f64 a, .float .f64 b, .bool false] w fun e w' => ∃ v, e = .returned (.float .f64 v) ∧ OkR M4 v ∧ Grown w w')
    (hD1 : ∀ w, Calls Try.prog 17 #[.float .f64 a, .float .f64 b, .bool true] w fun e w' => ∃ v, e = .returned (.float .f64 v) ∧ OkR D v ∧ Grown w w')
    (hD2 : ∀ w, Calls Try.prog 17 #[.float .f64 na, .float .f64 b, .bool false] w fun e w' => ∃ v, e = .returned (.float .f64 v) ∧ OkR D2 v ∧ Grown w w')
    (hS1 : ∀ w, Calls Try.prog 13 #[.float .f64 a, .float .f64 b, .bool true] w fun e w' => ∃ v, e = .returned (.float .f64 v) ∧ OkR A4 v ∧ Grown w w')
    (f1 : ∀ v v', OkR A v → OkR A2 v' → sameB (negN v) v' = true) (f2 : ∀ v v', OkR M v → OkR M2 v' → sameB (negN v) v' = true) (f3 : ∀ v v', OkR D v → OkR D2 v' → sameB (negN v) v' = true)
    (f4 : ∀ v v', OkR A v → OkR A3 v' → sameB v v' = true) (f5 : ∀ v v', OkR M v → OkR M3 v' → sameB v v' = true) (f6 : ∀ v v', OkR A4 v → OkR A4 v' → sameB v v' = true)
    (p1 : ∀ x v, OkR (double.add a b) x → OkR A v → likeB x v = false) (p2 : false = false → ∀ x v, OkR (double.add a b) x → OkR A5 v → likeB x v = true)
    (q1 : ∀ x v, OkR (double.mul a b) x → OkR M v → likeB x v = true) (q2 : true = false → ∀ x v, OkR (double.mul a b) x → OkR M4 v → likeB x v = true) :
    Calls Try.prog 7 #[.float .f64 a, .float .f64 b, .bool true] w fun e w' => e = .returned (.bool true) ∧ Grown w w' := by
  have HA1 : Hid (∀ w, Calls Try.prog 11 #[.float .f64 a, .float .f64 b, .bool true] w fun e w' => ∃ v, e = .returned (.float .f64 v) ∧ OkR A v ∧ Grown w w') := hA1
  have HA2 : Hid (∀ w, Calls Try.prog 11 #[.float .f64 na, .float .f64 nb, .bool false] w fun e w' => ∃ v, e = .returned (.float .f64 v) ∧ OkR A2 v ∧ Grown w w') := hA2
  have HA3 : Hid (∀ w, Calls Try.prog 11 #[.float .f64 b, .float .f64 a, .bool true] w fun e w' => ∃ v, e = .returned (.float .f64 v) ∧ OkR A3 v ∧ Grown w w') := hA3
  have HA4 : Hid (∀ w, Calls Try.prog 11 #[.float .f64 a, .float .f64 nb, .bool true] w fun e w' => ∃ v, e = .returned (.float .f64 v) ∧ OkR A4 v ∧ Grown w w') := hA4
  have HA5 : Hid (∀ w, Calls Try.prog 11 #[.float .f64 a, .float .f64 b, .bool false] w fun e w' => ∃ v, e = .returned (.float .f64 v) ∧ OkR A5 v ∧ Grown w w') := hA5
  have HM1 : Hid (∀ w, Calls Try.prog 15 #[.float .f64 a, .float .f64 b, .bool true] w fun e w' => ∃ v, e = .returned (.float .f64 v) ∧ OkR M v ∧ Grown w w') := hM1
  have HM2 : Hid (∀ w, Calls Try.prog 15 #[.float .f64 na, .float .f64 b, .bool false] w fun e w' => ∃ v, e = .returned (.float .f64 v) ∧ OkR M2 v ∧ Grown w w') := hM2
  have HM3 : Hid (∀ w, Calls Try.prog 15 #[.float .f64 b, .float .f64 a, .bool true] w fun e w' => ∃ v, e = .returned (.float .f64 v) ∧ OkR M3 v ∧ Grown w w') := hM3
  have HM4 : Hid (∀ w, Calls Try.prog 15 #[.float .f64 a, .float .f64 b, .bool false] w fun e w' => ∃ v, e = .returned (.float .f64 v) ∧ OkR M4 v ∧ Grown w w') := hM4
  have HD1 : Hid (∀ w, Calls Try.prog 17 #[.float .f64 a, .float .f64 b, .bool true] w fun e w' => ∃ v, e = .returned (.float .f64 v) ∧ OkR D v ∧ Grown w w') := hD1
  have HD2 : Hid (∀ w, Calls Try.prog 17 #[.float .f64 na, .float .f64 b, .bool false] w fun e w' => ∃ v, e = .returned (.float .f64 v) ∧ OkR D2 v ∧ Grown w w') := hD2
  have HS1 : Hid (∀ w, Calls Try.prog 13 #[.float .f64 a, .float .f64 b, .bool true] w fun e w' => ∃ v, e = .returned (.float .f64 v) ∧ OkR A4 v ∧ Grown w w') := hS1
  clear hA1 hA2 hA3 hA4 hA5 hM1 hM2 hM3 hM4 hD1 hD2 hS1
  have F1 := hidden f1
  have F2 := hidden f2
  have F3 := hidden f3
  have F4 := hidden f4
  have F5 := hidden f5
  have F6 := hidden f6
  have P1 := hidden p1
  have P2 := hidden (p2 rfl)
  have Q1 := hidden q1
  clear f1 f2 f3 f4 f5 f6 p1 p2 q1 q2
  have gn := neg_run
  go_enter Try.func7, Try.ntmps7
  go_wp2_with (first | (go_at_call 9; refine (awake4 _).mono ?_; rintro e w' ⟨rfl, rfl⟩) | (go_at_call 11; with_reducible refine (HA1.out _).mono ?_; rintro e w' ⟨vA1, rfl, oA1, gA1⟩) | (go_at_call 11; with_reducible refine (HA2.out _).mono ?_; rintro e w' ⟨vA2, rfl, oA2, gA2⟩) | (go_at_call 11; with_reducible refine (HA3.out _).mono ?_; rintro e w' ⟨vA3, rfl, oA3, gA3⟩) | (go_at_call 11; with_reducible refine (HA4.out _).mono ?_; rintro e w' ⟨vA4, rfl, oA4, gA4⟩) | (go_at_call 11; with_reducible refine (HA5.out _).mono ?_; rintro e w' ⟨vA5, rfl, oA5, gA5⟩) | (go_at_call 15; with_reducible refine (HM1.out _).mono ?_; rintro e w' ⟨vM1, rfl, oM1, gM1⟩) | (go_at_call 15; with_reducible refine (HM2.out _).mono ?_; rintro e w' ⟨vM2, rfl, oM2, gM2⟩) | (go_at_call 15; with_reducible refine (HM3.out _).mono ?_; rintro e w' ⟨vM3, rfl, oM3, gM3⟩) | (go_at_call 15; with_reducible refine (HM4.out _).mono ?_; rintro e w' ⟨vM4, rfl, oM4, gM4⟩) | (go_at_call 17; with_reducible refine (HD1.out _).mono ?_; rintro e w' ⟨vD1, rfl, oD1, gD1⟩) | (go_at_call 17; with_reducible refine (HD2.out _).mono ?_; rintro e w' ⟨vD2, rfl, oD2, gD2⟩) | (go_at_call 13; with_reducible refine (HS1.out _).mono ?_; rintro e w' ⟨vS1, rfl, oS1, gS1⟩) | (go_at_call 10; with_reducible refine (same_true _ _ _ (F1.out _ _ oA1 oA2)).mono ?_; rintro e w' ⟨rfl, rfl⟩) | (go_at_call 10; with_reducible refine (same_true _ _ _ (F2.out _ _ oM1 oM2)).mono ?_; rintro e w' ⟨rfl, rfl⟩) | (go_at_call 10; with_reducible refine (same_true _ _ _ (F3.out _ _ oD1 oD2)).mono ?_; rintro e w' ⟨rfl, rfl⟩) | (go_at_call 10; with_reducible refine (same_true _ _ _ (F4.out _ _ oA1 oA3)).mono ?_; rintro e w' ⟨rfl, rfl⟩) | (go_at_call 10; with_reducible refine (same_true _ _ _ (F5.out _ _ oM1 oM3)).mono ?_; rintro e w' ⟨rfl, rfl⟩) | (go_at_call 10; with_reducible refine (same_true _ _ _ (F6.out _ _ oS1 oA4)).mono ?_; rintro e w' ⟨rfl, rfl⟩))
  cases hs : double.add a b with
  | none =>
    have eA := fun w => nanOf_run .add (by simp) 22 a b w hs
    have oxA : ∀ w, OkR (double.add a b) (nanOf a b w) := fun w => by rw [hs]; exact nanOf_W a b w
    cases hm : double.mul a b with
    | none =>
      have eM := fun w => nanOf_run .mul (by simp) 22 a b w hm
      have oxM : ∀ w, OkR (double.mul a b) (nanOf a b w) := fun w => by rw [hm]; exact nanOf_W a b w
      clear hm hs
      have gA := hidden (grown_trans (grown_trans (grown_trans (grown_trans (grown_trans (grown_trans (grown_trans (grown_trans (grown_trans gA1 gM1) gD1) gA2) gM2) gD2) gA3) gM3) gS1) gA4)
      clear gA1 gM1 gD1 gA2 gM2 gD2 gA3 gM3 gS1 gA4
      rw [eA]
      simp only [Result.andThen]
      rw [Oper.upon_value]
      go_wp2_with (first | (go_at_call 11; with_reducible refine (HA5.out _).mono ?_; rintro e w' ⟨vA5, rfl, oA5, gA5⟩) | (go_at_call 15; with_reducible refine (HM4.out _).mono ?_; rintro e w' ⟨vM4, rfl, oM4, gM4⟩) | (go_at_call 36; with_reducible refine (like_is _ _ _ _ (P1.out _ _ (oxA _) oA1)).mono ?_; rintro e w' ⟨rfl, rfl⟩) | (go_at_call 36; with_reducible refine (like_is _ _ _ _ (P2.out _ _ (oxA _) oA5)).mono ?_; rintro e w' ⟨rfl, rfl⟩) | (go_at_call 36; with_reducible refine (like_is _ _ _ _ (Q1.out _ _ (oxM _) oM1)).mono ?_; rintro e w' ⟨rfl, rfl⟩))
      go_ret
      exact ⟨rfl, grown_trans (grown_trans (Grown.drew (Grown.drew gA.out)) gA5) gM4⟩
    | some y =>
      have eM := fun w => mul_run w a b y hm
      have oxM : OkR (double.mul a b) y := by rw [hm]; rfl
      clear hm hs
      have gA := hidden (grown_trans (grown_trans (grown_trans (grown_trans (grown_trans (grown_trans (grown_trans (grown_trans (grown_trans gA1 gM1) gD1) gA2) gM2) gD2) gA3) gM3) gS1) gA4)
      clear gA1 gM1 gD1 gA2 gM2 gD2 gA3 gM3 gS1 gA4
      rw [eA]
      simp only [Result.andThen]
      rw [Oper.upon_value]
      go_wp2_with (first | (go_at_call 11; with_reducible refine (HA5.out _).mono ?_; rintro e w' ⟨vA5, rfl, oA5, gA5⟩) | (go_at_call 15; with_reducible refine (HM4.out _).mono ?_; rintro e w' ⟨vM4, rfl, oM4, gM4⟩) | (go_at_call 36; with_reducible refine (like_is _ _ _ _ (P1.out _ _ (oxA _) oA1)).mono ?_; rintro e w' ⟨rfl, rfl⟩) | (go_at_call 36; with_reducible refine (like_is _ _ _ _ (P2.out _ _ (oxA _) oA5)).mono ?_; rintro e w' ⟨rfl, rfl⟩) | (go_at_call 36; with_reducible refine (like_is _ _ _ _ (Q1.out _ _ oxM oM1)).mono ?_; rintro e w' ⟨rfl, rfl⟩))
      go_ret
      exact ⟨rfl, grown_trans (grown_trans (Grown.drew gA.out) gA5) gM4⟩
  | some x =>
    have eA := fun w => add_run w a b x hs
    have oxA : OkR (double.add a b) x := by rw [hs]; rfl
    cases hm : double.mul a b with
    | none =>
      have eM := fun w => nanOf_run .mul (by simp) 22 a b w hm
      have oxM : ∀ w, OkR (double.mul a b) (nanOf a b w) := fun w => by rw [hm]; exact nanOf_W a b w
      clear hm hs
      have gA := hidden (grown_trans (grown_trans (grown_trans (grown_trans (grown_trans (grown_trans (grown_trans (grown_trans (grown_trans gA1 gM1) gD1) gA2) gM2) gD2) gA3) gM3) gS1) gA4)
      clear gA1 gM1 gD1 gA2 gM2 gD2 gA3 gM3 gS1 gA4
      rw [eA]
      simp only [Result.andThen]
      rw [Oper.upon_value]
      go_wp2_with (first | (go_at_call 11; with_reducible refine (HA5.out _).mono ?_; rintro e w' ⟨vA5, rfl, oA5, gA5⟩) | (go_at_call 15; with_reducible refine (HM4.out _).mono ?_; rintro e w' ⟨vM4, rfl, oM4, gM4⟩) | (go_at_call 36; with_reducible refine (like_is _ _ _ _ (P1.out _ _ oxA oA1)).mono ?_; rintro e w' ⟨rfl, rfl⟩) | (go_at_call 36; with_reducible refine (like_is _ _ _ _ (P2.out _ _ oxA oA5)).mono ?_; rintro e w' ⟨rfl, rfl⟩) | (go_at_call 36; with_reducible refine (like_is _ _ _ _ (Q1.out _ _ (oxM _) oM1)).mono ?_; rintro e w' ⟨rfl, rfl⟩))
      go_ret
      exact ⟨rfl, grown_trans (grown_trans (Grown.drew gA.out) gA5) gM4⟩
    | some y =>
      have eM := fun w => mul_run w a b y hm
      have oxM : OkR (double.mul a b) y := by rw [hm]; rfl
      clear hm hs
      have gA := hidden (grown_trans (grown_trans (grown_trans (grown_trans (grown_trans (grown_trans (grown_trans (grown_trans (grown_trans gA1 gM1) gD1) gA2) gM2) gD2) gA3) gM3) gS1) gA4)
      clear gA1 gM1 gD1 gA2 gM2 gD2 gA3 gM3 gS1 gA4
      rw [eA]
      simp only [Result.andThen]
      rw [Oper.upon_value]
      go_wp2_with (first | (go_at_call 11; with_reducible refine (HA5.out _).mono ?_; rintro e w' ⟨vA5, rfl, oA5, gA5⟩) | (go_at_call 15; with_reducible refine (HM4.out _).mono ?_; rintro e w' ⟨vM4, rfl, oM4, gM4⟩) | (go_at_call 36; with_reducible refine (like_is _ _ _ _ (P1.out _ _ oxA oA1)).mono ?_; rintro e w' ⟨rfl, rfl⟩) | (go_at_call 36; with_reducible refine (like_is _ _ _ _ (P2.out _ _ oxA oA5)).mono ?_; rintro e w' ⟨rfl, rfl⟩) | (go_at_call 36; with_reducible refine (like_is _ _ _ _ (Q1.out _ _ oxM oM1)).mono ?_; rintro e w' ⟨rfl, rfl⟩))
      go_ret
      exact ⟨rfl, grown_trans (grown_trans gA.out gA5) gM4⟩
theorem turned_true_false_false (a b na nb : Nat) (A A2 A3 A4 A5 M M2 M3 M4 D D2 : Option Nat) (w : World) (ha : negN a = na) (hb : negN b = nb)
    (hA1 : ∀ w, Calls Try.prog 11 #[.float .f64 a, .float .f64 b, .bool true] w fun e w' => ∃ v, e = .returned (.float .f64 v) ∧ OkR A v ∧ Grown w w')
    (hA2 : ∀ w, Calls Try.prog 11 #[.float .f64 na, .float .f64 nb, .bool false] w fun e w' => ∃ v, e = .returned (.float .f64 v) ∧ OkR A2 v ∧ Grown w w')
    (hA3 : ∀ w, Calls Try.prog 11 #[.float .f64 b, .float .f64 a, .bool true] w fun e w' => ∃ v, e = .returned (.float .f64 v) ∧ OkR A3 v ∧ Grown w w')
    (hA4 : ∀ w, Calls Try.prog 11 #[.float .f64 a, .float .f64 nb, .bool true] w fun e w' => ∃ v, e = .returned (.float .f64 v) ∧ OkR A4 v ∧ Grown w w')
    (hA5 : ∀ w, Calls Try.prog 11 #[.float .f64 a, .float .f64 b, .bool false] w fun e w' => ∃ v, e = .returned (.float .f64 v) ∧ OkR A5 v ∧ Grown w w')
    (hM1 : ∀ w, Calls Try.prog 15 #[.float .f64 a, .float .f64 b, .bool true] w fun e w' => ∃ v, e = .returned (.float .f64 v) ∧ OkR M v ∧ Grown w w')
    (hM2 : ∀ w, Calls Try.prog 15 #[.float .f64 na, .float .f64 b, .bool false] w fun e w' => ∃ v, e = .returned (.float .f64 v) ∧ OkR M2 v ∧ Grown w w')
    (hM3 : ∀ w, Calls Try.prog 15 #[.float .f64 b, .float .f64 a, .bool true] w fun e w' => ∃ v, e = .returned (.float .f64 v) ∧ OkR M3 v ∧ Grown w w')
    (hM4 : ∀ w, Calls Try.prog 15 #[.float .f64 a, .float .f64 b, .bool false] w fun e w' => ∃ v, e = .returned (.float .f64 v) ∧ OkR M4 v ∧ Grown w w')
    (hD1 : ∀ w, Calls Try.prog 17 #[.float .f64 a, .float .f64 b, .bool true] w fun e w' => ∃ v, e = .returned (.float .f64 v) ∧ OkR D v ∧ Grown w w')
    (hD2 : ∀ w, Calls Try.prog 17 #[.float .f64 na, .float .f64 b, .bool false] w fun e w' => ∃ v, e = .returned (.float .f64 v) ∧ OkR D2 v ∧ Grown w w')
    (hS1 : ∀ w, Calls Try.prog 13 #[.float .f64 a, .float .f64 b, .bool true] w fun e w' => ∃ v, e = .returned (.float .f64 v) ∧ OkR A4 v ∧ Grown w w')
    (f1 : ∀ v v', OkR A v → OkR A2 v' → sameB (negN v) v' = true) (f2 : ∀ v v', OkR M v → OkR M2 v' → sameB (negN v) v' = true) (f3 : ∀ v v', OkR D v → OkR D2 v' → sameB (negN v) v' = true)
    (f4 : ∀ v v', OkR A v → OkR A3 v' → sameB v v' = true) (f5 : ∀ v v', OkR M v → OkR M3 v' → sameB v v' = true) (f6 : ∀ v v', OkR A4 v → OkR A4 v' → sameB v v' = true)
    (p1 : ∀ x v, OkR (double.add a b) x → OkR A v → likeB x v = false) (p2 : false = false → ∀ x v, OkR (double.add a b) x → OkR A5 v → likeB x v = true)
    (q1 : ∀ x v, OkR (double.mul a b) x → OkR M v → likeB x v = false) (q2 : false = false → ∀ x v, OkR (double.mul a b) x → OkR M4 v → likeB x v = true) :
    Calls Try.prog 7 #[.float .f64 a, .float .f64 b, .bool true] w fun e w' => e = .returned (.bool true) ∧ Grown w w' := by
  have HA1 : Hid (∀ w, Calls Try.prog 11 #[.float .f64 a, .float .f64 b, .bool true] w fun e w' => ∃ v, e = .returned (.float .f64 v) ∧ OkR A v ∧ Grown w w') := hA1
  have HA2 : Hid (∀ w, Calls Try.prog 11 #[.float .f64 na, .float .f64 nb, .bool false] w fun e w' => ∃ v, e = .returned (.float .f64 v) ∧ OkR A2 v ∧ Grown w w') := hA2
  have HA3 : Hid (∀ w, Calls Try.prog 11 #[.float .f64 b, .float .f64 a, .bool true] w fun e w' => ∃ v, e = .returned (.float .f64 v) ∧ OkR A3 v ∧ Grown w w') := hA3
  have HA4 : Hid (∀ w, Calls Try.prog 11 #[.float .f64 a, .float .f64 nb, .bool true] w fun e w' => ∃ v, e = .returned (.float .f64 v) ∧ OkR A4 v ∧ Grown w w') := hA4
  have HA5 : Hid (∀ w, Calls Try.prog 11 #[.float .f64 a, .float .f64 b, .bool false] w fun e w' => ∃ v, e = .returned (.float .f64 v) ∧ OkR A5 v ∧ Grown w w') := hA5
  have HM1 : Hid (∀ w, Calls Try.prog 15 #[.float .f64 a, .float .f64 b, .bool true] w fun e w' => ∃ v, e = .returned (.float .f64 v) ∧ OkR M v ∧ Grown w w') := hM1
  have HM2 : Hid (∀ w, Calls Try.prog 15 #[.float .f64 na, .float .f64 b, .bool false] w fun e w' => ∃ v, e = .returned (.float .f64 v) ∧ OkR M2 v ∧ Grown w w') := hM2
  have HM3 : Hid (∀ w, Calls Try.prog 15 #[.float .f64 b, .float .f64 a, .bool true] w fun e w' => ∃ v, e = .returned (.float .f64 v) ∧ OkR M3 v ∧ Grown w w') := hM3
  have HM4 : Hid (∀ w, Calls Try.prog 15 #[.float .f64 a, .float .f64 b, .bool false] w fun e w' => ∃ v, e = .returned (.float .f64 v) ∧ OkR M4 v ∧ Grown w w') := hM4
  have HD1 : Hid (∀ w, Calls Try.prog 17 #[.float .f64 a, .float .f64 b, .bool true] w fun e w' => ∃ v, e = .returned (.float .f64 v) ∧ OkR D v ∧ Grown w w') := hD1
  have HD2 : Hid (∀ w, Calls Try.prog 17 #[.float .f64 na, .float .f64 b, .bool false] w fun e w' => ∃ v, e = .returned (.float .f64 v) ∧ OkR D2 v ∧ Grown w w') := hD2
  have HS1 : Hid (∀ w, Calls Try.prog 13 #[.float .f64 a, .float .f64 b, .bool true] w fun e w' => ∃ v, e = .returned (.float .f64 v) ∧ OkR A4 v ∧ Grown w w') := hS1
  clear hA1 hA2 hA3 hA4 hA5 hM1 hM2 hM3 hM4 hD1 hD2 hS1
  have F1 := hidden f1
  have F2 := hidden f2
  have F3 := hidden f3
  have F4 := hidden f4
  have F5 := hidden f5
  have F6 := hidden f6
  have P1 := hidden p1
  have P2 := hidden (p2 rfl)
  have Q1 := hidden q1
  have Q2 := hidden (q2 rfl)
  clear f1 f2 f3 f4 f5 f6 p1 p2 q1 q2
  have gn := neg_run
  go_enter Try.func7, Try.ntmps7
  go_wp2_with (first | (go_at_call 9; refine (awake4 _).mono ?_; rintro e w' ⟨rfl, rfl⟩) | (go_at_call 11; with_reducible refine (HA1.out _).mono ?_; rintro e w' ⟨vA1, rfl, oA1, gA1⟩) | (go_at_call 11; with_reducible refine (HA2.out _).mono ?_; rintro e w' ⟨vA2, rfl, oA2, gA2⟩) | (go_at_call 11; with_reducible refine (HA3.out _).mono ?_; rintro e w' ⟨vA3, rfl, oA3, gA3⟩) | (go_at_call 11; with_reducible refine (HA4.out _).mono ?_; rintro e w' ⟨vA4, rfl, oA4, gA4⟩) | (go_at_call 11; with_reducible refine (HA5.out _).mono ?_; rintro e w' ⟨vA5, rfl, oA5, gA5⟩) | (go_at_call 15; with_reducible refine (HM1.out _).mono ?_; rintro e w' ⟨vM1, rfl, oM1, gM1⟩) | (go_at_call 15; with_reducible refine (HM2.out _).mono ?_; rintro e w' ⟨vM2, rfl, oM2, gM2⟩) | (go_at_call 15; with_reducible refine (HM3.out _).mono ?_; rintro e w' ⟨vM3, rfl, oM3, gM3⟩) | (go_at_call 15; with_reducible refine (HM4.out _).mono ?_; rintro e w' ⟨vM4, rfl, oM4, gM4⟩) | (go_at_call 17; with_reducible refine (HD1.out _).mono ?_; rintro e w' ⟨vD1, rfl, oD1, gD1⟩) | (go_at_call 17; with_reducible refine (HD2.out _).mono ?_; rintro e w' ⟨vD2, rfl, oD2, gD2⟩) | (go_at_call 13; with_reducible refine (HS1.out _).mono ?_; rintro e w' ⟨vS1, rfl, oS1, gS1⟩) | (go_at_call 10; with_reducible refine (same_true _ _ _ (F1.out _ _ oA1 oA2)).mono ?_; rintro e w' ⟨rfl, rfl⟩) | (go_at_call 10; with_reducible refine (same_true _ _ _ (F2.out _ _ oM1 oM2)).mono ?_; rintro e w' ⟨rfl, rfl⟩) | (go_at_call 10; with_reducible refine (same_true _ _ _ (F3.out _ _ oD1 oD2)).mono ?_; rintro e w' ⟨rfl, rfl⟩) | (go_at_call 10; with_reducible refine (same_true _ _ _ (F4.out _ _ oA1 oA3)).mono ?_; rintro e w' ⟨rfl, rfl⟩) | (go_at_call 10; with_reducible refine (same_true _ _ _ (F5.out _ _ oM1 oM3)).mono ?_; rintro e w' ⟨rfl, rfl⟩) | (go_at_call 10; with_reducible refine (same_true _ _ _ (F6.out _ _ oS1 oA4)).mono ?_; rintro e w' ⟨rfl, rfl⟩))
  cases hs : double.add a b with
  | none =>
    have eA := fun w => nanOf_run .add (by simp) 22 a b w hs
    have oxA : ∀ w, OkR (double.add a b) (nanOf a b w) := fun w => by rw [hs]; exact nanOf_W a b w
    cases hm : double.mul a b with
    | none =>
      have eM := fun w => nanOf_run .mul (by simp) 22 a b w hm
      have oxM : ∀ w, OkR (double.mul a b) (nanOf a b w) := fun w => by rw [hm]; exact nanOf_W a b w
      clear hm hs
      have gA := hidden (grown_trans (grown_trans (grown_trans (grown_trans (grown_trans (grown_trans (grown_trans (grown_trans (grown_trans gA1 gM1) gD1) gA2) gM2) gD2) gA3) gM3) gS1) gA4)
      clear gA1 gM1 gD1 gA2 gM2 gD2 gA3 gM3 gS1 gA4
      rw [eA]
      simp only [Result.andThen]
      rw [Oper.upon_value]
      go_wp2_with (first | (go_at_call 11; with_reducible refine (HA5.out _).mono ?_; rintro e w' ⟨vA5, rfl, oA5, gA5⟩) | (go_at_call 15; with_reducible refine (HM4.out _).mono ?_; rintro e w' ⟨vM4, rfl, oM4, gM4⟩) | (go_at_call 36; with_reducible refine (like_is _ _ _ _ (P1.out _ _ (oxA _) oA1)).mono ?_; rintro e w' ⟨rfl, rfl⟩) | (go_at_call 36; with_reducible refine (like_is _ _ _ _ (P2.out _ _ (oxA _) oA5)).mono ?_; rintro e w' ⟨rfl, rfl⟩) | (go_at_call 36; with_reducible refine (like_is _ _ _ _ (Q1.out _ _ (oxM _) oM1)).mono ?_; rintro e w' ⟨rfl, rfl⟩) | (go_at_call 36; with_reducible refine (like_is _ _ _ _ (Q2.out _ _ (oxM _) oM4)).mono ?_; rintro e w' ⟨rfl, rfl⟩))
      go_ret
      exact ⟨rfl, grown_trans (grown_trans (Grown.drew (Grown.drew gA.out)) gA5) gM4⟩
    | some y =>
      have eM := fun w => mul_run w a b y hm
      have oxM : OkR (double.mul a b) y := by rw [hm]; rfl
      clear hm hs
      have gA := hidden (grown_trans (grown_trans (grown_trans (grown_trans (grown_trans (grown_trans (grown_trans (grown_trans (grown_trans gA1 gM1) gD1) gA2) gM2) gD2) gA3) gM3) gS1) gA4)
      clear gA1 gM1 gD1 gA2 gM2 gD2 gA3 gM3 gS1 gA4
      rw [eA]
      simp only [Result.andThen]
      rw [Oper.upon_value]
      go_wp2_with (first | (go_at_call 11; with_reducible refine (HA5.out _).mono ?_; rintro e w' ⟨vA5, rfl, oA5, gA5⟩) | (go_at_call 15; with_reducible refine (HM4.out _).mono ?_; rintro e w' ⟨vM4, rfl, oM4, gM4⟩) | (go_at_call 36; with_reducible refine (like_is _ _ _ _ (P1.out _ _ (oxA _) oA1)).mono ?_; rintro e w' ⟨rfl, rfl⟩) | (go_at_call 36; with_reducible refine (like_is _ _ _ _ (P2.out _ _ (oxA _) oA5)).mono ?_; rintro e w' ⟨rfl, rfl⟩) | (go_at_call 36; with_reducible refine (like_is _ _ _ _ (Q1.out _ _ oxM oM1)).mono ?_; rintro e w' ⟨rfl, rfl⟩) | (go_at_call 36; with_reducible refine (like_is _ _ _ _ (Q2.out _ _ oxM oM4)).mono ?_; rintro e w' ⟨rfl, rfl⟩))
      go_ret
      exact ⟨rfl, grown_trans (grown_trans (Grown.drew gA.out) gA5) gM4⟩
  | some x =>
    have eA := fun w => add_run w a b x hs
    have oxA : OkR (double.add a b) x := by rw [hs]; rfl
    cases hm : double.mul a b with
    | none =>
      have eM := fun w => nanOf_run .mul (by simp) 22 a b w hm
      have oxM : ∀ w, OkR (double.mul a b) (nanOf a b w) := fun w => by rw [hm]; exact nanOf_W a b w
      clear hm hs
      have gA := hidden (grown_trans (grown_trans (grown_trans (grown_trans (grown_trans (grown_trans (grown_trans (grown_trans (grown_trans gA1 gM1) gD1) gA2) gM2) gD2) gA3) gM3) gS1) gA4)
      clear gA1 gM1 gD1 gA2 gM2 gD2 gA3 gM3 gS1 gA4
      rw [eA]
      simp only [Result.andThen]
      rw [Oper.upon_value]
      go_wp2_with (first | (go_at_call 11; with_reducible refine (HA5.out _).mono ?_; rintro e w' ⟨vA5, rfl, oA5, gA5⟩) | (go_at_call 15; with_reducible refine (HM4.out _).mono ?_; rintro e w' ⟨vM4, rfl, oM4, gM4⟩) | (go_at_call 36; with_reducible refine (like_is _ _ _ _ (P1.out _ _ oxA oA1)).mono ?_; rintro e w' ⟨rfl, rfl⟩) | (go_at_call 36; with_reducible refine (like_is _ _ _ _ (P2.out _ _ oxA oA5)).mono ?_; rintro e w' ⟨rfl, rfl⟩) | (go_at_call 36; with_reducible refine (like_is _ _ _ _ (Q1.out _ _ (oxM _) oM1)).mono ?_; rintro e w' ⟨rfl, rfl⟩) | (go_at_call 36; with_reducible refine (like_is _ _ _ _ (Q2.out _ _ (oxM _) oM4)).mono ?_; rintro e w' ⟨rfl, rfl⟩))
      go_ret
      exact ⟨rfl, grown_trans (grown_trans (Grown.drew gA.out) gA5) gM4⟩
    | some y =>
      have eM := fun w => mul_run w a b y hm
      have oxM : OkR (double.mul a b) y := by rw [hm]; rfl
      clear hm hs
      have gA := hidden (grown_trans (grown_trans (grown_trans (grown_trans (grown_trans (grown_trans (grown_trans (grown_trans (grown_trans gA1 gM1) gD1) gA2) gM2) gD2) gA3) gM3) gS1) gA4)
      clear gA1 gM1 gD1 gA2 gM2 gD2 gA3 gM3 gS1 gA4
      rw [eA]
      simp only [Result.andThen]
      rw [Oper.upon_value]
      go_wp2_with (first | (go_at_call 11; with_reducible refine (HA5.out _).mono ?_; rintro e w' ⟨vA5, rfl, oA5, gA5⟩) | (go_at_call 15; with_reducible refine (HM4.out _).mono ?_; rintro e w' ⟨vM4, rfl, oM4, gM4⟩) | (go_at_call 36; with_reducible refine (like_is _ _ _ _ (P1.out _ _ oxA oA1)).mono ?_; rintro e w' ⟨rfl, rfl⟩) | (go_at_call 36; with_reducible refine (like_is _ _ _ _ (P2.out _ _ oxA oA5)).mono ?_; rintro e w' ⟨rfl, rfl⟩) | (go_at_call 36; with_reducible refine (like_is _ _ _ _ (Q1.out _ _ oxM oM1)).mono ?_; rintro e w' ⟨rfl, rfl⟩) | (go_at_call 36; with_reducible refine (like_is _ _ _ _ (Q2.out _ _ oxM oM4)).mono ?_; rintro e w' ⟨rfl, rfl⟩))
      go_ret
      exact ⟨rfl, grown_trans (grown_trans gA.out gA5) gM4⟩
end Go.Proofs.Yteeppbkkgleagaa
