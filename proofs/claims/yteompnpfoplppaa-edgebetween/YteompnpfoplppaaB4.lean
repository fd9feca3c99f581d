import Derived.Test.YteompnpfoplppaaB3
namespace Go.Proofs.Yteompnpfoplppaa
open Go.RowKit
open Ieee
set_option linter.unusedVariables false

theorem btw_not (i op : Int) (a b : Nat) (P : Nat → Prop) (w : World)
    (HI : Hid (∀ w, Calls Try.prog 22 #[.int .i64 i, .int .i64 5] w fun e w' => e = .returned (.int .i64 op) ∧ w' = w))
    (HL : Hid (∀ w, Calls Try.prog 23 #[.int .i64 op, .float .f64 a, .float .f64 b, .bool false] w fun e w' => ∃ v, e = .returned (.float .f64 v) ∧ P v ∧ Gr w w'))
    (HH : Hid (∀ w, Calls Try.prog 23 #[.int .i64 op, .float .f64 a, .float .f64 b, .bool true] w fun e w' => ∃ v, e = .returned (.float .f64 v) ∧ P v ∧ Gr w w'))
    (HP : Hid (∀ w, Calls Try.prog 24 #[.int .i64 op, .float .f64 a, .float .f64 b] w fun e w' => e = .returned (.bool false) ∧ Gr w w'))
    (F : Hid (∀ v v', P v → P v' → sameB v v' = true)) :
    Calls Try.prog 5 #[.int .i64 i, .float .f64 a, .float .f64 b] w fun e w' => e = .returned (.bool true) ∧ Gr w w' := by
  go_enter Try.func5, Try.ntmps5
  go_wp2_with (first | (go_at_call 6; refine (awake4 _).mono ?_; rintro e w' ⟨rfl, rfl⟩) | (go_at_call 22; with_reducible refine (HI.out _).mono ?_; rintro e w' ⟨rfl, rfl⟩) | (go_at_call 23; with_reducible refine (HL.out _).mono ?_; rintro e w1 ⟨v1, rfl, p1, g1⟩) | (go_at_call 23; with_reducible refine (HH.out _).mono ?_; rintro e w2 ⟨v2, rfl, p2, g2⟩; have f := F.out _ _ p1 p2) | (go_at_call 24; with_reducible refine (HP.out _).mono ?_; rintro e w3 ⟨rfl, g3⟩) | (go_at_call 7; refine (same_true _ _ _ (by assumption)).mono ?_; rintro e w' ⟨rfl, rfl⟩))
  go_ret
  exact ⟨rfl, (g1.trans g2).trans g3⟩
theorem btw_eq (i op : Int) (a b lo hi : Nat) (w : World)
    (HI : Hid (∀ w, Calls Try.prog 22 #[.int .i64 i, .int .i64 5] w fun e w' => e = .returned (.int .i64 op) ∧ w' = w))
    (HL : Hid (∀ w, Calls Try.prog 23 #[.int .i64 op, .float .f64 a, .float .f64 b, .bool false] w fun e w' => e = .returned (.float .f64 lo) ∧ Gr w w'))
    (HH : Hid (∀ w, Calls Try.prog 23 #[.int .i64 op, .float .f64 a, .float .f64 b, .bool true] w fun e w' => e = .returned (.float .f64 hi) ∧ Gr w w'))
    (HP : Hid (∀ w, Calls Try.prog 24 #[.int .i64 op, .float .f64 a, .float .f64 b] w fun e w' => e = .returned (.bool true) ∧ Gr w w'))
    (he : (FloatKind.f64.format.order lo hi == some .eq) = true)
    (HF : Hid (∀ w, Calls Try.prog 25 #[.float .f64 lo] w fun e w' => e = .returned (.bool true) ∧ w' = w))
    (HA : Hid (∀ w, Calls Try.prog 26 #[.int .i64 op, .float .f64 a, .float .f64 b, .float .f64 lo] w fun e w' => e = .returned (.int .i64 0) ∧ Gr w w')) :
    Calls Try.prog 5 #[.int .i64 i, .float .f64 a, .float .f64 b] w fun e w' => e = .returned (.bool true) ∧ Gr w w' := by
  go_enter Try.func5, Try.ntmps5
  go_wp2_with (first | (go_at_call 6; refine (awake4 _).mono ?_; rintro e w' ⟨rfl, rfl⟩) | (go_at_call 22; with_reducible refine (HI.out _).mono ?_; rintro e w' ⟨rfl, rfl⟩) | (go_at_call 23; with_reducible refine (HL.out _).mono ?_; rintro e w1 ⟨rfl, g1⟩) | (go_at_call 23; with_reducible refine (HH.out _).mono ?_; rintro e w2 ⟨rfl, g2⟩) | (go_at_call 24; with_reducible refine (HP.out _).mono ?_; rintro e w3 ⟨rfl, g3⟩) | (go_at_call 25; with_reducible refine (HF.out _).mono ?_; rintro e w' ⟨rfl, rfl⟩) | (go_at_call 26; with_reducible refine (HA.out _).mono ?_; rintro e w4 ⟨rfl, g4⟩))
  go_ret
  exact ⟨rfl, ((g1.trans g2).trans g3).trans g4⟩

set_option maxHeartbeats 1600000 in
theorem btw_lt (i op kl kh : Int) (a b lo hi : Nat) (w : World) (fl fh : Bool) (hf : fl || fh)
    (HI : Hid (∀ w, Calls Try.prog 22 #[.int .i64 i, .int .i64 5] w fun e w' => e = .returned (.int .i64 op) ∧ w' = w))
    (HL : Hid (∀ w, Calls Try.prog 23 #[.int .i64 op, .float .f64 a, .float .f64 b, .bool false] w fun e w' => e = .returned (.float .f64 lo) ∧ Gr w w'))
    (HH : Hid (∀ w, Calls Try.prog 23 #[.int .i64 op, .float .f64 a, .float .f64 b, .bool true] w fun e w' => e = .returned (.float .f64 hi) ∧ Gr w w'))
    (HP : Hid (∀ w, Calls Try.prog 24 #[.int .i64 op, .float .f64 a, .float .f64 b] w fun e w' => e = .returned (.bool true) ∧ Gr w w'))
    (he : (FloatKind.f64.format.order lo hi == some .eq) = false) (hlt : (FloatKind.f64.format.order lo hi == some .lt) = true) (hl : (FloatKind.f64.format.order lo lo != some .eq) = false) (hh : (FloatKind.f64.format.order hi hi != some .eq) = false)
    (HN1 : Hid (∀ w, Calls Try.prog 27 #[.float .f64 lo, .bool true] w fun e w' => e = .returned (.float .f64 hi) ∧ w' = w)) (HN2 : Hid (∀ w, Calls Try.prog 27 #[.float .f64 hi, .bool false] w fun e w' => e = .returned (.float .f64 lo) ∧ w' = w))
    (HFl : Hid (∀ w, Calls Try.prog 25 #[.float .f64 lo] w fun e w' => e = .returned (.bool fl) ∧ Gr w w')) (HFh : Hid (∀ w, Calls Try.prog 25 #[.float .f64 hi] w fun e w' => e = .returned (.bool fh) ∧ Gr w w'))
    (hkl : kl < 0) (hkh : 0 < kh)
    (HAl : fl = true → Hid (∀ w, Calls Try.prog 26 #[.int .i64 op, .float .f64 a, .float .f64 b, .float .f64 lo] w fun e w' => e = .returned (.int .i64 kl) ∧ Gr w w'))
    (HAh : fh = true → Hid (∀ w, Calls Try.prog 26 #[.int .i64 op, .float .f64 a, .float .f64 b, .float .f64 hi] w fun e w' => e = .returned (.int .i64 kh) ∧ Gr w w')) :
    Calls Try.prog 5 #[.int .i64 i, .float .f64 a, .float .f64 b] w fun e w' => e = .returned (.bool true) ∧ Gr w w' := by
  have hkl' : ¬ 0 ≤ kl := by omega
  have hkh' : ¬ kh ≤ 0 := by omega
  cases fl <;> cases fh
  · cases hf
  · have HA := HAh rfl
    clear HAl HAh hf
    go_enter Try.func5, Try.ntmps5
    go_wp2_with (first | (go_at_call 6; refine (awake4 _).mono ?_; rintro e w' ⟨rfl, rfl⟩) | (go_at_call 22; with_reducible refine (HI.out _).mono ?_; rintro e w' ⟨rfl, rfl⟩) | (go_at_call 23; with_reducible refine (HL.out _).mono ?_; rintro e w1 ⟨rfl, g1⟩) | (go_at_call 23; with_reducible refine (HH.out _).mono ?_; rintro e w2 ⟨rfl, g2⟩) | (go_at_call 24; with_reducible refine (HP.out _).mono ?_; rintro e w3 ⟨rfl, g3⟩; have G := (g1.trans g2).trans g3; clear g1 g2 g3) | (go_at_call 27; with_reducible refine (HN1.out _).mono ?_; rintro e w' ⟨rfl, rfl⟩) | (go_at_call 27; with_reducible refine (HN2.out _).mono ?_; rintro e w' ⟨rfl, rfl⟩) | (go_at_call 25; with_reducible refine (HFl.out _).mono ?_; rintro e w5 ⟨rfl, g5⟩; replace G := G.trans g5; clear g5) | (go_at_call 25; with_reducible refine (HFh.out _).mono ?_; rintro e w5 ⟨rfl, g5⟩; replace G := G.trans g5; clear g5) | (go_at_call 26; with_reducible refine (HA.out _).mono ?_; rintro e w5 ⟨rfl, g5⟩; replace G := G.trans g5; clear g5))
    go_ret
    exact ⟨rfl, G⟩
  · have HA := HAl rfl
    clear HAl HAh hf
    go_enter Try.func5, Try.ntmps5
    go_wp2_with (first | (go_at_call 6; refine (awake4 _).mono ?_; rintro e w' ⟨rfl, rfl⟩) | (go_at_call 22; with_reducible refine (HI.out _).mono ?_; rintro e w' ⟨rfl, rfl⟩) | (go_at_call 23; with_reducible refine (HL.out _).mono ?_; rintro e w1 ⟨rfl, g1⟩) | (go_at_call 23; with_reducible refine (HH.out _).mono ?_; rintro e w2 ⟨rfl, g2⟩) | (go_at_call 24; with_reducible refine (HP.out _).mono ?_; rintro e w3 ⟨rfl, g3⟩; have G := (g1.trans g2).trans g3; clear g1 g2 g3) | (go_at_call 27; with_reducible refine (HN1.out _).mono ?_; rintro e w' ⟨rfl, rfl⟩) | (go_at_call 27; with_reducible refine (HN2.out _).mono ?_; rintro e w' ⟨rfl, rfl⟩) | (go_at_call 25; with_reducible refine (HFl.out _).mono ?_; rintro e w5 ⟨rfl, g5⟩; replace G := G.trans g5; clear g5) | (go_at_call 25; with_reducible refine (HFh.out _).mono ?_; rintro e w5 ⟨rfl, g5⟩; replace G := G.trans g5; clear g5) | (go_at_call 26; with_reducible refine (HA.out _).mono ?_; rintro e w5 ⟨rfl, g5⟩; replace G := G.trans g5; clear g5))
    go_ret
    exact ⟨rfl, G⟩
  · have HA := HAl rfl
    have HB := HAh rfl
    clear HAl HAh hf
    go_enter Try.func5, Try.ntmps5
    go_wp2_with (first | (go_at_call 6; refine (awake4 _).mono ?_; rintro e w' ⟨rfl, rfl⟩) | (go_at_call 22; with_reducible refine (HI.out _).mono ?_; rintro e w' ⟨rfl, rfl⟩) | (go_at_call 23; with_reducible refine (HL.out _).mono ?_; rintro e w1 ⟨rfl, g1⟩) | (go_at_call 23; with_reducible refine (HH.out _).mono ?_; rintro e w2 ⟨rfl, g2⟩) | (go_at_call 24; with_reducible refine (HP.out _).mono ?_; rintro e w3 ⟨rfl, g3⟩; have G := (g1.trans g2).trans g3; clear g1 g2 g3) | (go_at_call 27; with_reducible refine (HN1.out _).mono ?_; rintro e w' ⟨rfl, rfl⟩) | (go_at_call 27; with_reducible refine (HN2.out _).mono ?_; rintro e w' ⟨rfl, rfl⟩) | (go_at_call 25; with_reducible refine (HFl.out _).mono ?_; rintro e w5 ⟨rfl, g5⟩; replace G := G.trans g5; clear g5) | (go_at_call 25; with_reducible refine (HFh.out _).mono ?_; rintro e w5 ⟨rfl, g5⟩; replace G := G.trans g5; clear g5) | (go_at_call 26; with_reducible refine (HA.out _).mono ?_; rintro e w5 ⟨rfl, g5⟩; replace G := G.trans g5; clear g5) | (go_at_call 26; with_reducible refine (HB.out _).mono ?_; rintro e w5 ⟨rfl, g5⟩; replace G := G.trans g5; clear g5))
    go_ret
    exact ⟨rfl, G⟩
end Go.Proofs.Yteompnpfoplppaa
