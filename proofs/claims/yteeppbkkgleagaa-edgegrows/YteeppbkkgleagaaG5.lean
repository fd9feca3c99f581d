import Derived.Test.YteeppbkkgleagaaG4
namespace Go.Proofs.Yteeppbkkgleagaa
open Go.RowKit
open Ieee
set_option linter.unusedVariables false

theorem grows_small_no_skip (a b c cc : Nat) (oad : Option Addr) (len cap : Nat) (up : Bool) (w : World) (S0 S1 : Nat → Prop) (hlen : ¬ 500 < (len : Int))
    (hS0 : ∀ w1, Grown w w1 → Calls Try.prog 22 #[.slice oad len cap, .bool false] w1 fun e w' => ∃ v, e = .returned (.float .f64 v) ∧ S0 v ∧ Grown w1 w')
    (hS1 : ∀ w1, Grown w w1 → Calls Try.prog 22 #[.slice oad len cap, .bool true] w1 fun e w' => ∃ v, e = .returned (.float .f64 v) ∧ S1 v ∧ Grown w1 w')
    (fS : ∀ v v', S0 v → S1 v' → (FloatKind.f64.format.order v v' == some .gt) = false)
    (l1 : (FloatKind.f64.format.order a b == some .lt) = false) (l2 : (FloatKind.f64.format.order a b == some .eq) = false) :
    Calls Try.prog 8 #[.float .f64 a, .float .f64 b, .float .f64 c, .slice oad len cap, .bool up] w fun e w' => e = .returned (.bool true) ∧ Grown w w' := by
  have HS0 := hidden hS0
  have HS1 := hidden hS1
  have FS := hidden fS
  clear hS0 hS1 fS
  go_enter Try.func8, Try.ntmps8
  go_wp2_with (first | (go_at_call 9; refine (awake4 _).mono ?_; rintro e w' ⟨rfl, rfl⟩) | (go_at_call 22; with_reducible refine (HS0.out _ (Grown.refl _)).mono ?_; rintro e w' ⟨vS0, rfl, oS0, gS0⟩) | (go_at_call 22; with_reducible refine (HS1.out _ gS0).mono ?_; rintro e w' ⟨vS1, rfl, oS1, gS1⟩; have kS := FS.out _ _ oS0 oS1))
  go_ret
  exact ⟨rfl, (grown_trans gS0 gS1)⟩
theorem grows_small_lt_nan (a b c cc : Nat) (oad : Option Addr) (len cap : Nat) (up : Bool) (w : World) (S0 S1 : Nat → Prop) (hlen : ¬ 500 < (len : Int))
    (hS0 : ∀ w1, Grown w w1 → Calls Try.prog 22 #[.slice oad len cap, .bool false] w1 fun e w' => ∃ v, e = .returned (.float .f64 v) ∧ S0 v ∧ Grown w1 w')
    (hS1 : ∀ w1, Grown w w1 → Calls Try.prog 22 #[.slice oad len cap, .bool true] w1 fun e w' => ∃ v, e = .returned (.float .f64 v) ∧ S1 v ∧ Grown w1 w')
    (fS : ∀ v v', S0 v → S1 v' → (FloatKind.f64.format.order v v' == some .gt) = false)
    (l1 : (FloatKind.f64.format.order a b == some .lt) = true)
    (cn : (FloatKind.f64.format.order c c != some .eq) = true) :
    Calls Try.prog 8 #[.float .f64 a, .float .f64 b, .float .f64 c, .slice oad len cap, .bool up] w fun e w' => e = .returned (.bool true) ∧ Grown w w' := by
  have HS0 := hidden hS0
  have HS1 := hidden hS1
  have FS := hidden fS
  clear hS0 hS1 fS
  go_enter Try.func8, Try.ntmps8
  go_wp2_with (first | (go_at_call 9; refine (awake4 _).mono ?_; rintro e w' ⟨rfl, rfl⟩) | (go_at_call 22; with_reducible refine (HS0.out _ (Grown.refl _)).mono ?_; rintro e w' ⟨vS0, rfl, oS0, gS0⟩) | (go_at_call 22; with_reducible refine (HS1.out _ gS0).mono ?_; rintro e w' ⟨vS1, rfl, oS1, gS1⟩; have kS := FS.out _ _ oS0 oS1))
  go_ret
  exact ⟨rfl, (grown_trans gS0 gS1)⟩
theorem grows_small_eq_nan (a b c cc : Nat) (oad : Option Addr) (len cap : Nat) (up : Bool) (w : World) (S0 S1 : Nat → Prop) (hlen : ¬ 500 < (len : Int))
    (hS0 : ∀ w1, Grown w w1 → Calls Try.prog 22 #[.slice oad len cap, .bool false] w1 fun e w' => ∃ v, e = .returned (.float .f64 v) ∧ S0 v ∧ Grown w1 w')
    (hS1 : ∀ w1, Grown w w1 → Calls Try.prog 22 #[.slice oad len cap, .bool true] w1 fun e w' => ∃ v, e = .returned (.float .f64 v) ∧ S1 v ∧ Grown w1 w')
    (fS : ∀ v v', S0 v → S1 v' → (FloatKind.f64.format.order v v' == some .gt) = false)
    (l1 : (FloatKind.f64.format.order a b == some .lt) = false) (l2 : (FloatKind.f64.format.order a b == some .eq) = true)
    (cn : (FloatKind.f64.format.order c c != some .eq) = true) :
    Calls Try.prog 8 #[.float .f64 a, .float .f64 b, .float .f64 c, .slice oad len cap, .bool up] w fun e w' => e = .returned (.bool true) ∧ Grown w w' := by
  have HS0 := hidden hS0
  have HS1 := hidden hS1
  have FS := hidden fS
  clear hS0 hS1 fS
  go_enter Try.func8, Try.ntmps8
  go_wp2_with (first | (go_at_call 9; refine (awake4 _).mono ?_; rintro e w' ⟨rfl, rfl⟩) | (go_at_call 22; with_reducible refine (HS0.out _ (Grown.refl _)).mono ?_; rintro e w' ⟨vS0, rfl, oS0, gS0⟩) | (go_at_call 22; with_reducible refine (HS1.out _ gS0).mono ?_; rintro e w' ⟨vS1, rfl, oS1, gS1⟩; have kS := FS.out _ _ oS0 oS1))
  go_ret
  exact ⟨rfl, (grown_trans gS0 gS1)⟩
theorem grows_small_lt_neg (a b c cc : Nat) (oad : Option Addr) (len cap : Nat) (up : Bool) (w : World) (S0 S1 : Nat → Prop) (hlen : ¬ 500 < (len : Int))
    (hS0 : ∀ w1, Grown w w1 → Calls Try.prog 22 #[.slice oad len cap, .bool false] w1 fun e w' => ∃ v, e = .returned (.float .f64 v) ∧ S0 v ∧ Grown w1 w')
    (hS1 : ∀ w1, Grown w w1 → Calls Try.prog 22 #[.slice oad len cap, .bool true] w1 fun e w' => ∃ v, e = .returned (.float .f64 v) ∧ S1 v ∧ Grown w1 w')
    (fS : ∀ v v', S0 v → S1 v' → (FloatKind.f64.format.order v v' == some .gt) = false)
    (l1 : (FloatKind.f64.format.order a b == some .lt) = true)
    (cn : (FloatKind.f64.format.order c c != some .eq) = false) (c0 : (FloatKind.f64.format.order c 0 == some .lt) = true) (hcc : negN c = cc)
    (A1 A2 M1 M2 Q1 Q2 B1 B2 : Option Nat)
    (hA1 : ∀ w, Calls Try.prog 11 #[.float .f64 a, .float .f64 cc, .bool up] w fun e w' => ∃ v, e = .returned (.float .f64 v) ∧ OkR A1 v ∧ Grown w w')
    (hA2 : ∀ w, Calls Try.prog 11 #[.float .f64 b, .float .f64 cc, .bool up] w fun e w' => ∃ v, e = .returned (.float .f64 v) ∧ OkR A2 v ∧ Grown w w')
    (hM1 : ∀ w, Calls Try.prog 15 #[.float .f64 a, .float .f64 cc, .bool up] w fun e w' => ∃ v, e = .returned (.float .f64 v) ∧ OkR M1 v ∧ Grown w w')
    (hM2 : ∀ w, Calls Try.prog 15 #[.float .f64 b, .float .f64 cc, .bool up] w fun e w' => ∃ v, e = .returned (.float .f64 v) ∧ OkR M2 v ∧ Grown w w')
    (hQ1 : ∀ w, Calls Try.prog 19 #[.float .f64 a, .bool up] w fun e w' => ∃ v, e = .returned (.float .f64 v) ∧ OkR Q1 v ∧ Grown w w')
    (hQ2 : ∀ w, Calls Try.prog 19 #[.float .f64 b, .bool up] w fun e w' => ∃ v, e = .returned (.float .f64 v) ∧ OkR Q2 v ∧ Grown w w')
    (hB1 : ∀ w, Calls Try.prog 13 #[.float .f64 cc, .float .f64 b, .bool up] w fun e w' => ∃ v, e = .returned (.float .f64 v) ∧ OkR B1 v ∧ Grown w w')
    (hB2 : ∀ w, Calls Try.prog 13 #[.float .f64 cc, .float .f64 a, .bool up] w fun e w' => ∃ v, e = .returned (.float .f64 v) ∧ OkR B2 v ∧ Grown w w')
    (fA : ∀ v v', OkR A1 v → OkR A2 v' → (FloatKind.f64.format.order v v' == some .gt) = false)
    (fM : ∀ v v', OkR M1 v → OkR M2 v' → (FloatKind.f64.format.order v v' == some .gt) = false)
    (fQ : ∀ v v', OkR Q1 v → OkR Q2 v' → (FloatKind.f64.format.order v v' == some .gt) = false)
    (fB : ∀ v v', OkR B1 v → OkR B2 v' → (FloatKind.f64.format.order v v' == some .gt) = false) :
    Calls Try.prog 8 #[.float .f64 a, .float .f64 b, .float .f64 c, .slice oad len cap, .bool up] w fun e w' => e = .returned (.bool true) ∧ Grown w w' := by
  have HS0 := hidden hS0
  have HS1 := hidden hS1
  have FS := hidden fS
  clear hS0 hS1 fS
  have HA1 := hidden hA1
  clear hA1
  have HA2 := hidden hA2
  clear hA2
  have HM1 := hidden hM1
  clear hM1
  have HM2 := hidden hM2
  clear hM2
  have HQ1 := hidden hQ1
  clear hQ1
  have HQ2 := hidden hQ2
  clear hQ2
  have HB1 := hidden hB1
  clear hB1
  have HB2 := hidden hB2
  clear hB2
  have FA := hidden fA
  clear fA
  have FM := hidden fM
  clear fM
  have FQ := hidden fQ
  clear fQ
  have FB := hidden fB
  clear fB
  have gn := neg_run
  go_enter Try.func8, Try.ntmps8
  go_wp2_with (first | (go_at_call 9; refine (awake4 _).mono ?_; rintro e w' ⟨rfl, rfl⟩) | (go_at_call 22; with_reducible refine (HS0.out _ (Grown.refl _)).mono ?_; rintro e w' ⟨vS0, rfl, oS0, gS0⟩) | (go_at_call 22; with_reducible refine (HS1.out _ gS0).mono ?_; rintro e w' ⟨vS1, rfl, oS1, gS1⟩; have kS := FS.out _ _ oS0 oS1) | (go_at_call 11; with_reducible refine (HA1.out _).mono ?_; rintro e w' ⟨vA1, rfl, oA1, gA1⟩) | (go_at_call 11; with_reducible refine (HA2.out _).mono ?_; rintro e w' ⟨vA2, rfl, oA2, gA2⟩; have kA := FA.out _ _ oA1 oA2) | (go_at_call 15; with_reducible refine (HM1.out _).mono ?_; rintro e w' ⟨vM1, rfl, oM1, gM1⟩) | (go_at_call 15; with_reducible refine (HM2.out _).mono ?_; rintro e w' ⟨vM2, rfl, oM2, gM2⟩; have kM := FM.out _ _ oM1 oM2) | (go_at_call 19; with_reducible refine (HQ1.out _).mono ?_; rintro e w' ⟨vQ1, rfl, oQ1, gQ1⟩) | (go_at_call 19; with_reducible refine (HQ2.out _).mono ?_; rintro e w' ⟨vQ2, rfl, oQ2, gQ2⟩; have kQ := FQ.out _ _ oQ1 oQ2) | (go_at_call 13; with_reducible refine (HB1.out _).mono ?_; rintro e w' ⟨vB1, rfl, oB1, gB1⟩) | (go_at_call 13; with_reducible refine (HB2.out _).mono ?_; rintro e w' ⟨vB2, rfl, oB2, gB2⟩; have kB := FB.out _ _ oB1 oB2))
  go_ret
  exact ⟨rfl, (grown_trans (grown_trans (grown_trans (grown_trans (grown_trans (grown_trans (grown_trans (grown_trans (grown_trans gS0 gS1) gA1) gA2) gM1) gM2) gQ1) gQ2) gB1) gB2)⟩
theorem grows_small_eq_neg (a b c cc : Nat) (oad : Option Addr) (len cap : Nat) (up : Bool) (w : World) (S0 S1 : Nat → Prop) (hlen : ¬ 500 < (len : Int))
    (hS0 : ∀ w1, Grown w w1 → Calls Try.prog 22 #[.slice oad len cap, .bool false] w1 fun e w' => ∃ v, e = .returned (.float .f64 v) ∧ S0 v ∧ Grown w1 w')
    (hS1 : ∀ w1, Grown w w1 → Calls Try.prog 22 #[.slice oad len cap, .bool true] w1 fun e w' => ∃ v, e = .returned (.float .f64 v) ∧ S1 v ∧ Grown w1 w')
    (fS : ∀ v v', S0 v → S1 v' → (FloatKind.f64.format.order v v' == some .gt) = false)
    (l1 : (FloatKind.f64.format.order a b == some .lt) = false) (l2 : (FloatKind.f64.format.order a b == some .eq) = true)
    (cn : (FloatKind.f64.format.order c c != some .eq) = false) (c0 : (FloatKind.f64.format.order c 0 == some .lt) = true) (hcc : negN c = cc)
    (A1 A2 M1 M2 Q1 Q2 B1 B2 : Option Nat)
    (hA1 : ∀ w, Calls Try.prog 11 #[.float .f64 a, .float .f64 cc, .bool up] w fun e w' => ∃ v, e = .returned (.float .f64 v) ∧ OkR A1 v ∧ Grown w w')
    (hA2 : ∀ w, Calls Try.prog 11 #[.float .f64 b, .float .f64 cc, .bool up] w fun e w' => ∃ v, e = .returned (.float .f64 v) ∧ OkR A2 v ∧ Grown w w')
    (hM1 : ∀ w, Calls Try.prog 15 #[.float .f64 a, .float .f64 cc, .bool up] w fun e w' => ∃ v, e = .returned (.float .f64 v) ∧ OkR M1 v ∧ Grown w w')
    (hM2 : ∀ w, Calls Try.prog 15 #[.float .f64 b, .float .f64 cc, .bool up] w fun e w' => ∃ v, e = .returned (.float .f64 v) ∧ OkR M2 v ∧ Grown w w')
    (hQ1 : ∀ w, Calls Try.prog 19 #[.float .f64 a, .bool up] w fun e w' => ∃ v, e = .returned (.float .f64 v) ∧ OkR Q1 v ∧ Grown w w')
    (hQ2 : ∀ w, Calls Try.prog 19 #[.float .f64 b, .bool up] w fun e w' => ∃ v, e = .returned (.float .f64 v) ∧ OkR Q2 v ∧ Grown w w')
    (hB1 : ∀ w, Calls Try.prog 13 #[.float .f64 cc, .float .f64 b, .bool up] w fun e w' => ∃ v, e = .returned (.float .f64 v) ∧ OkR B1 v ∧ Grown w w')
    (hB2 : ∀ w, Calls Try.prog 13 #[.float .f64 cc, .float .f64 a, .bool up] w fun e w' => ∃ v, e = .returned (.float .f64 v) ∧ OkR B2 v ∧ Grown w w')
    (fA : ∀ v v', OkR A1 v → OkR A2 v' → (FloatKind.f64.format.order v v' == some .gt) = false)
    (fM : ∀ v v', OkR M1 v → OkR M2 v' → (FloatKind.f64.format.order v v' == some .gt) = false)
    (fQ : ∀ v v', OkR Q1 v → OkR Q2 v' → (FloatKind.f64.format.order v v' == some .gt) = false)
    (fB : ∀ v v', OkR B1 v → OkR B2 v' → (FloatKind.f64.format.order v v' == some .gt) = false) :
    Calls Try.prog 8 #[.float .f64 a, .float .f64 b, .float .f64 c, .slice oad len cap, .bool up] w fun e w' => e = .returned (.bool true) ∧ Grown w w' := by
  have HS0 := hidden hS0
  have HS1 := hidden hS1
  have FS := hidden fS
  clear hS0 hS1 fS
  have HA1 := hidden hA1
  clear hA1
  have HA2 := hidden hA2
  clear hA2
  have HM1 := hidden hM1
  clear hM1
  have HM2 := hidden hM2
  clear hM2
  have HQ1 := hidden hQ1
  clear hQ1
  have HQ2 := hidden hQ2
  clear hQ2
  have HB1 := hidden hB1
  clear hB1
  have HB2 := hidden hB2
  clear hB2
  have FA := hidden fA
  clear fA
  have FM := hidden fM
  clear fM
  have FQ := hidden fQ
  clear fQ
  have FB := hidden fB
  clear fB
  have gn := neg_run
  go_enter Try.func8, Try.ntmps8
  go_wp2_with (first | (go_at_call 9; refine (awake4 _).mono ?_; rintro e w' ⟨rfl, rfl⟩) | (go_at_call 22; with_reducible refine (HS0.out _ (Grown.refl _)).mono ?_; rintro e w' ⟨vS0, rfl, oS0, gS0⟩) | (go_at_call 22; with_reducible refine (HS1.out _ gS0).mono ?_; rintro e w' ⟨vS1, rfl, oS1, gS1⟩; have kS := FS.out _ _ oS0 oS1) | (go_at_call 11; with_reducible refine (HA1.out _).mono ?_; rintro e w' ⟨vA1, rfl, oA1, gA1⟩) | (go_at_call 11; with_reducible refine (HA2.out _).mono ?_; rintro e w' ⟨vA2, rfl, oA2, gA2⟩; have kA := FA.out _ _ oA1 oA2) | (go_at_call 15; with_reducible refine (HM1.out _).mono ?_; rintro e w' ⟨vM1, rfl, oM1, gM1⟩) | (go_at_call 15; with_reducible refine (HM2.out _).mono ?_; rintro e w' ⟨vM2, rfl, oM2, gM2⟩; have kM := FM.out _ _ oM1 oM2) | (go_at_call 19; with_reducible refine (HQ1.out _).mono ?_; rintro e w' ⟨vQ1, rfl, oQ1, gQ1⟩) | (go_at_call 19; with_reducible refine (HQ2.out _).mono ?_; rintro e w' ⟨vQ2, rfl, oQ2, gQ2⟩; have kQ := FQ.out _ _ oQ1 oQ2) | (go_at_call 13; with_reducible refine (HB1.out _).mono ?_; rintro e w' ⟨vB1, rfl, oB1, gB1⟩) | (go_at_call 13; with_reducible refine (HB2.out _).mono ?_; rintro e w' ⟨vB2, rfl, oB2, gB2⟩; have kB := FB.out _ _ oB1 oB2))
  go_ret
  exact ⟨rfl, (grown_trans (grown_trans (grown_trans (grown_trans (grown_trans (grown_trans (grown_trans (grown_trans (grown_trans gS0 gS1) gA1) gA2) gM1) gM2) gQ1) gQ2) gB1) gB2)⟩
theorem grows_small_lt_pos (a b c cc : Nat) (oad : Option Addr) (len cap : Nat) (up : Bool) (w : World) (S0 S1 : Nat → Prop) (hlen : ¬ 500 < (len : Int))
    (hS0 : ∀ w1, Grown w w1 → Calls Try.prog 22 #[.slice oad len cap, .bool false] w1 fun e w' => ∃ v, e = .returned (.float .f64 v) ∧ S0 v ∧ Grown w1 w')
    (hS1 : ∀ w1, Grown w w1 → Calls Try.prog 22 #[.slice oad len cap, .bool true] w1 fun e w' => ∃ v, e = .returned (.float .f64 v) ∧ S1 v ∧ Grown w1 w')
    (fS : ∀ v v', S0 v → S1 v' → (FloatKind.f64.format.order v v' == some .gt) = false)
    (l1 : (FloatKind.f64.format.order a b == some .lt) = true)
    (cn : (FloatKind.f64.format.order c c != some .eq) = false) (c0 : (FloatKind.f64.format.order c 0 == some .lt) = false) (hcc : c = cc)
    (A1 A2 M1 M2 Q1 Q2 B1 B2 : Option Nat)
    (hA1 : ∀ w, Calls Try.prog 11 #[.float .f64 a, .float .f64 cc, .bool up] w fun e w' => ∃ v, e = .returned (.float .f64 v) ∧ OkR A1 v ∧ Grown w w')
    (hA2 : ∀ w, Calls Try.prog 11 #[.float .f64 b, .float .f64 cc, .bool up] w fun e w' => ∃ v, e = .returned (.float .f64 v) ∧ OkR A2 v ∧ Grown w w')
    (hM1 : ∀ w, Calls Try.prog 15 #[.float .f64 a, .float .f64 cc, .bool up] w fun e w' => ∃ v, e = .returned (.float .f64 v) ∧ OkR M1 v ∧ Grown w w')
    (hM2 : ∀ w, Calls Try.prog 15 #[.float .f64 b, .float .f64 cc, .bool up] w fun e w' => ∃ v, e = .returned (.float .f64 v) ∧ OkR M2 v ∧ Grown w w')
    (hQ1 : ∀ w, Calls Try.prog 19 #[.float .f64 a, .bool up] w fun e w' => ∃ v, e = .returned (.float .f64 v) ∧ OkR Q1 v ∧ Grown w w')
    (hQ2 : ∀ w, Calls Try.prog 19 #[.float .f64 b, .bool up] w fun e w' => ∃ v, e = .returned (.float .f64 v) ∧ OkR Q2 v ∧ Grown w w')
    (hB1 : ∀ w, Calls Try.prog 13 #[.float .f64 cc, .float .f64 b, .bool up] w fun e w' => ∃ v, e = .returned (.float .f64 v) ∧ OkR B1 v ∧ Grown w w')
    (hB2 : ∀ w, Calls Try.prog 13 #[.float .f64 cc, .float .f64 a, .bool up] w fun e w' => ∃ v, e = .returned (.float .f64 v) ∧ OkR B2 v ∧ Grown w w')
    (fA : ∀ v v', OkR A1 v → OkR A2 v' → (FloatKind.f64.format.order v v' == some .gt) = false)
    (fM : ∀ v v', OkR M1 v → OkR M2 v' → (FloatKind.f64.format.order v v' == some .gt) = false)
    (fQ : ∀ v v', OkR Q1 v → OkR Q2 v' → (FloatKind.f64.format.order v v' == some .gt) = false)
    (fB : ∀ v v', OkR B1 v → OkR B2 v' → (FloatKind.f64.format.order v v' == some .gt) = false) :
    Calls Try.prog 8 #[.float .f64 a, .float .f64 b, .float .f64 c, .slice oad len cap, .bool up] w fun e w' => e = .returned (.bool true) ∧ Grown w w' := by
  have HS0 := hidden hS0
  have HS1 := hidden hS1
  have FS := hidden fS
  clear hS0 hS1 fS
  have HA1 := hidden hA1
  clear hA1
  have HA2 := hidden hA2
  clear hA2
  have HM1 := hidden hM1
  clear hM1
  have HM2 := hidden hM2
  clear hM2
  have HQ1 := hidden hQ1
  clear hQ1
  have HQ2 := hidden hQ2
  clear hQ2
  have HB1 := hidden hB1
  clear hB1
  have HB2 := hidden hB2
  clear hB2
  have FA := hidden fA
  clear fA
  have FM := hidden fM
  clear fM
  have FQ := hidden fQ
  clear fQ
  have FB := hidden fB
  clear fB
  subst hcc
  go_enter Try.func8, Try.ntmps8
  go_wp2_with (first | (go_at_call 9; refine (awake4 _).mono ?_; rintro e w' ⟨rfl, rfl⟩) | (go_at_call 22; with_reducible refine (HS0.out _ (Grown.refl _)).mono ?_; rintro e w' ⟨vS0, rfl, oS0, gS0⟩) | (go_at_call 22; with_reducible refine (HS1.out _ gS0).mono ?_; rintro e w' ⟨vS1, rfl, oS1, gS1⟩; have kS := FS.out _ _ oS0 oS1) | (go_at_call 11; with_reducible refine (HA1.out _).mono ?_; rintro e w' ⟨vA1, rfl, oA1, gA1⟩) | (go_at_call 11; with_reducible refine (HA2.out _).mono ?_; rintro e w' ⟨vA2, rfl, oA2, gA2⟩; have kA := FA.out _ _ oA1 oA2) | (go_at_call 15; with_reducible refine (HM1.out _).mono ?_; rintro e w' ⟨vM1, rfl, oM1, gM1⟩) | (go_at_call 15; with_reducible refine (HM2.out _).mono ?_; rintro e w' ⟨vM2, rfl, oM2, gM2⟩; have kM := FM.out _ _ oM1 oM2) | (go_at_call 19; with_reducible refine (HQ1.out _).mono ?_; rintro e w' ⟨vQ1, rfl, oQ1, gQ1⟩) | (go_at_call 19; with_reducible refine (HQ2.out _).mono ?_; rintro e w' ⟨vQ2, rfl, oQ2, gQ2⟩; have kQ := FQ.out _ _ oQ1 oQ2) | (go_at_call 13; with_reducible refine (HB1.out _).mono ?_; rintro e w' ⟨vB1, rfl, oB1, gB1⟩) | (go_at_call 13; with_reducible refine (HB2.out _).mono ?_; rintro e w' ⟨vB2, rfl, oB2, gB2⟩; have kB := FB.out _ _ oB1 oB2))
  go_ret
  exact ⟨rfl, (grown_trans (grown_trans (grown_trans (grown_trans (grown_trans (grown_trans (grown_trans (grown_trans (grown_trans gS0 gS1) gA1) gA2) gM1) gM2) gQ1) gQ2) gB1) gB2)⟩
theorem grows_small_eq_pos (a b c cc : Nat) (oad : Option Addr) (len cap : Nat) (up : Bool) (w : World) (S0 S1 : Nat → Prop) (hlen : ¬ 500 < (len : Int))
    (hS0 : ∀ w1, Grown w w1 → Calls Try.prog 22 #[.slice oad len cap, .bool false] w1 fun e w' => ∃ v, e = .returned (.float .f64 v) ∧ S0 v ∧ Grown w1 w')
    (hS1 : ∀ w1, Grown w w1 → Calls Try.prog 22 #[.slice oad len cap, .bool true] w1 fun e w' => ∃ v, e = .returned (.float .f64 v) ∧ S1 v ∧ Grown w1 w')
    (fS : ∀ v v', S0 v → S1 v' → (FloatKind.f64.format.order v v' == some .gt) = false)
    (l1 : (FloatKind.f64.format.order a b == some .lt) = false) (l2 : (FloatKind.f64.format.order a b == some .eq) = true)
    (cn : (FloatKind.f64.format.order c c != some .eq) = false) (c0 : (FloatKind.f64.format.order c 0 == some .lt) = false) (hcc : c = cc)
    (A1 A2 M1 M2 Q1 Q2 B1 B2 : Option Nat)
    (hA1 : ∀ w, Calls Try.prog 11 #[.float .f64 a, .float .f64 cc, .bool up] w fun e w' => ∃ v, e = .returned (.float .f64 v) ∧ OkR A1 v ∧ Grown w w')
    (hA2 : ∀ w, Calls Try.prog 11 #[.float .f64 b, .float .f64 cc, .bool up] w fun e w' => ∃ v, e = .returned (.float .f64 v) ∧ OkR A2 v ∧ Grown w w')
    (hM1 : ∀ w, Calls Try.prog 15 #[.float .f64 a, .float .f64 cc, .bool up] w fun e w' => ∃ v, e = .returned (.float .f64 v) ∧ OkR M1 v ∧ Grown w w')
    (hM2 : ∀ w, Calls Try.prog 15 #[.float .f64 b, .float .f64 cc, .bool up] w fun e w' => ∃ v, e = .returned (.float .f64 v) ∧ OkR M2 v ∧ Grown w w')
    (hQ1 : ∀ w, Calls Try.prog 19 #[.float .f64 a, .bool up] w fun e w' => ∃ v, e = .returned (.float .f64 v) ∧ OkR Q1 v ∧ Grown w w')
    (hQ2 : ∀ w, Calls Try.prog 19 #[.float .f64 b, .bool up] w fun e w' => ∃ v, e = .returned (.float .f64 v) ∧ OkR Q2 v ∧ Grown w w')
    (hB1 : ∀ w, Calls Try.prog 13 #[.float .f64 cc, .float .f64 b, .bool up] w fun e w' => ∃ v, e = .returned (.float .f64 v) ∧ OkR B1 v ∧ Grown w w')
    (hB2 : ∀ w, Calls Try.prog 13 #[.float .f64 cc, .float .f64 a, .bool up] w fun e w' => ∃ v, e = .returned (.float .f64 v) ∧ OkR B2 v ∧ Grown w w')
    (fA : ∀ v v', OkR A1 v → OkR A2 v' → (FloatKind.f64.format.order v v' == some .gt) = false)
    (fM : ∀ v v', OkR M1 v → OkR M2 v' → (FloatKind.f64.format.order v v' == some .gt) = false)
    (fQ : ∀ v v', OkR Q1 v → OkR Q2 v' → (FloatKind.f64.format.order v v' == some .gt) = false)
    (fB : ∀ v v', OkR B1 v → OkR B2 v' → (FloatKind.f64.format.order v v' == some .gt) = false) :
    Calls Try.prog 8 #[.float .f64 a, .float .f64 b, .float .f64 c, .slice oad len cap, .bool up] w fun e w' => e = .returned (.bool true) ∧ Grown w w' := by
  have HS0 := hidden hS0
  have HS1 := hidden hS1
  have FS := hidden fS
  clear hS0 hS1 fS
  have HA1 := hidden hA1
  clear hA1
  have HA2 := hidden hA2
  clear hA2
  have HM1 := hidden hM1
  clear hM1
  have HM2 := hidden hM2
  clear hM2
  have HQ1 := hidden hQ1
  clear hQ1
  have HQ2 := hidden hQ2
  clear hQ2
  have HB1 := hidden hB1
  clear hB1
  have HB2 := hidden hB2
  clear hB2
  have FA := hidden fA
  clear fA
  have FM := hidden fM
  clear fM
  have FQ := hidden fQ
  clear fQ
  have FB := hidden fB
  clear fB
  subst hcc
  go_enter Try.func8, Try.ntmps8
  go_wp2_with (first | (go_at_call 9; refine (awake4 _).mono ?_; rintro e w' ⟨rfl, rfl⟩) | (go_at_call 22; with_reducible refine (HS0.out _ (Grown.refl _)).mono ?_; rintro e w' ⟨vS0, rfl, oS0, gS0⟩) | (go_at_call 22; with_reducible refine (HS1.out _ gS0).mono ?_; rintro e w' ⟨vS1, rfl, oS1, gS1⟩; have kS := FS.out _ _ oS0 oS1) | (go_at_call 11; with_reducible refine (HA1.out _).mono ?_; rintro e w' ⟨vA1, rfl, oA1, gA1⟩) | (go_at_call 11; with_reducible refine (HA2.out _).mono ?_; rintro e w' ⟨vA2, rfl, oA2, gA2⟩; have kA := FA.out _ _ oA1 oA2) | (go_at_call 15; with_reducible refine (HM1.out _).mono ?_; rintro e w' ⟨vM1, rfl, oM1, gM1⟩) | (go_at_call 15; with_reducible refine (HM2.out _).mono ?_; rintro e w' ⟨vM2, rfl, oM2, gM2⟩; have kM := FM.out _ _ oM1 oM2) | (go_at_call 19; with_reducible refine (HQ1.out _).mono ?_; rintro e w' ⟨vQ1, rfl, oQ1, gQ1⟩) | (go_at_call 19; with_reducible refine (HQ2.out _).mono ?_; rintro e w' ⟨vQ2, rfl, oQ2, gQ2⟩; have kQ := FQ.out _ _ oQ1 oQ2) | (go_at_call 13; with_reducible refine (HB1.out _).mono ?_; rintro e w' ⟨vB1, rfl, oB1, gB1⟩) | (go_at_call 13; with_reducible refine (HB2.out _).mono ?_; rintro e w' ⟨vB2, rfl, oB2, gB2⟩; have kB := FB.out _ _ oB1 oB2))
  go_ret
  exact ⟨rfl, (grown_trans (grown_trans (grown_trans (grown_trans (grown_trans (grown_trans (grown_trans (grown_trans (grown_trans gS0 gS1) gA1) gA2) gM1) gM2) gQ1) gQ2) gB1) gB2)⟩
theorem growsTop_small (s t u : Bool) (a b c : Nat) (oad : Option Addr) (len cap : Nat) (up : Bool) (w : World) (S0 S1 : Nat → Prop) (ha : a < 9223372036854775808) (hb : b < 9223372036854775808) (hc : c < 9223372036854775808) (hlen : ¬ 500 < (len : Int))
    (hS0 : ∀ w1, Grown w w1 → Calls Try.prog 22 #[.slice oad len cap, .bool false] w1 fun e w' => ∃ v, e = .returned (.float .f64 v) ∧ S0 v ∧ Grown w1 w')
    (hS1 : ∀ w1, Grown w w1 → Calls Try.prog 22 #[.slice oad len cap, .bool true] w1 fun e w' => ∃ v, e = .returned (.float .f64 v) ∧ S1 v ∧ Grown w1 w')
    (fS : ∀ v v', S0 v → S1 v' → (FloatKind.f64.format.order v v' == some .gt) = false) :
    Calls Try.prog 8 #[.float .f64 (W s a), .float .f64 (W t b), .float .f64 (W u c), .slice oad len cap, .bool up] w fun e w' => e = .returned (.bool true) ∧ Grown w w' := by
  by_cases hn : 9218868437227405312 < a ∨ 9218868437227405312 < b
  · have ho : FloatKind.f64.format.order (W s a) (W t b) = none := by
      rw [f64_format]
      rcases hn with h | h
      · exact order_nan_left s a _ ha h
      · exact order_nan_right t b _ hb h
    exact grows_small_no_skip _ _ _ 0 oad len cap up w S0 S1 hlen hS0 hS1 fS (by rw [ho]; rfl) (by rw [ho]; rfl)
  have hlt := B_lt s t a b (by omega) (by omega)
  have heq := B_eq s t a b (by omega) (by omega)
  by_cases hle : val s a ≤ val t b
  · by_cases hcn : 9218868437227405312 < c
    · have cn : (FloatKind.f64.format.order (W u c) (W u c) != some .eq) = true := by
        have := nanB_W u c hc
        rw [decide_eq_true hcn] at this
        exact this
      by_cases hl : val s a < val t b
      · rw [decide_eq_true hl] at hlt
        exact grows_small_lt_nan _ _ _ 0 oad len cap up w S0 S1 hlen hS0 hS1 fS hlt cn
      · rw [decide_eq_false hl] at hlt
        rw [decide_eq_true (by omega)] at heq
        exact grows_small_eq_nan _ _ _ 0 oad len cap up w S0 S1 hlen hS0 hS1 fS hlt heq cn
    · have cn : (FloatKind.f64.format.order (W u c) (W u c) != some .eq) = false := by
        have := nanB_W u c hc
        rw [decide_eq_false hcn] at this
        exact this
      have c0 := negB_W u c (by omega)
      unfold negB at c0
      -- the third, not below 0
      have both : ∀ (u' : Bool), (u' = false ∨ c = 0) → ∃ A1 A2 M1 M2 Q1 Q2 B1 B2,
          (∀ w, Calls Try.prog 11 #[.float .f64 (W s a), .float .f64 (W u' c), .bool up] w fun e w' => ∃ v, e = .returned (.float .f64 v) ∧ OkR A1 v ∧ Grown w w') ∧
          (∀ w, Calls Try.prog 11 #[.float .f64 (W t b), .float .f64 (W u' c), .bool up] w fun e w' => ∃ v, e = .returned (.float .f64 v) ∧ OkR A2 v ∧ Grown w w') ∧
          (∀ w, Calls Try.prog 15 #[.float .f64 (W s a), .float .f64 (W u' c), .bool up] w fun e w' => ∃ v, e = .returned (.float .f64 v) ∧ OkR M1 v ∧ Grown w w') ∧
          (∀ w, Calls Try.prog 15 #[.float .f64 (W t b), .float .f64 (W u' c), .bool up] w fun e w' => ∃ v, e = .returned (.float .f64 v) ∧ OkR M2 v ∧ Grown w w') ∧
          (∀ w, Calls Try.prog 19 #[.float .f64 (W s a), .bool up] w fun e w' => ∃ v, e = .returned (.float .f64 v) ∧ OkR Q1 v ∧ Grown w w') ∧
          (∀ w, Calls Try.prog 19 #[.float .f64 (W t b), .bool up] w fun e w' => ∃ v, e = .returned (.float .f64 v) ∧ OkR Q2 v ∧ Grown w w') ∧
          (∀ w, Calls Try.prog 13 #[.float .f64 (W u' c), .float .f64 (W t b), .bool up] w fun e w' => ∃ v, e = .returned (.float .f64 v) ∧ OkR B1 v ∧ Grown w w') ∧
          (∀ w, Calls Try.prog 13 #[.float .f64 (W u' c), .float .f64 (W s a), .bool up] w fun e w' => ∃ v, e = .returned (.float .f64 v) ∧ OkR B2 v ∧ Grown w w') ∧
          (∀ v v', OkR A1 v → OkR A2 v' → (FloatKind.f64.format.order v v' == some .gt) = false) ∧ (∀ v v', OkR M1 v → OkR M2 v' → (FloatKind.f64.format.order v v' == some .gt) = false) ∧
          (∀ v v', OkR Q1 v → OkR Q2 v' → (FloatKind.f64.format.order v v' == some .gt) = false) ∧ (∀ v v', OkR B1 v → OkR B2 v' → (FloatKind.f64.format.order v v' == some .gt) = false) := by
        intro u' hu'
        obtain ⟨A1, sA1, hA1⟩ := add11_spec s u' a c up ha hc
        obtain ⟨A2, sA2, hA2⟩ := add11_spec t u' b c up hb hc
        obtain ⟨M1, sM1, hM1⟩ := mul15_spec s u' a c up ha hc
        obtain ⟨M2, sM2, hM2⟩ := mul15_spec t u' b c up hb hc
        obtain ⟨Q1, sQ1, hQ1⟩ := sqrt19_spec s a up ha
        obtain ⟨Q2, sQ2, hQ2⟩ := sqrt19_spec t b up hb
        obtain ⟨B1, sB1, hB1⟩ := add11_spec u' (!t) c b up hc hb
        obtain ⟨B2, sB2, hB2⟩ := add11_spec u' (!s) c a up hc ha
        obtain ⟨C1, sC1, _⟩ := add11_spec (!t) u' b c up hb hc
        obtain ⟨C2, sC2, _⟩ := add11_spec (!s) u' a c up ha hc
        have e1 := addSpec_comm (!t) u' b c up C1 B1 hb hc sC1 sB1
        have e2 := addSpec_comm (!s) u' a c up C2 B2 ha hc sC2 sB2
        subst e1 e2
        refine ⟨A1, A2, M1, M2, Q1, Q2, _, _, hA1, hA2, hM1, hM2, hQ1, hQ2, fun w => sub13 _ _ _ up w _ (neg_W t b hb) hB1, fun w => sub13 _ _ _ up w _ (neg_W s a ha) hB2, ?_, ?_, ?_, ?_⟩
        · exact fun v v' h1 h2 => leV_not (add_grows s t u' a b c up up (fun h => h) (by omega) (by omega) (by omega) hle _ _ sA1 sA2 v v' h1 h2)
        · exact fun v v' h1 h2 => leV_not (mul_grows s t u' a b c up (by omega) (by omega) (by omega) hu' hle _ _ sM1 sM2 v v' h1 h2)
        · exact fun v v' h1 h2 => leV_not (sqrt_grows s t a b up (by omega) (by omega) hle _ _ sQ1 sQ2 v v' h1 h2)
        · exact fun v v' h1 h2 => leV_not (add_grows (!t) (!s) u' b a c up up (fun h => h) (by omega) (by omega) (by omega) (by rw [val_not, val_not]; omega) _ _ sC1 sC2 v v' h1 h2)
      by_cases hneg : u = true ∧ c ≠ 0
      · obtain ⟨rfl, hc0⟩ := hneg
        rw [decide_eq_true hc0] at c0
        obtain ⟨A1, A2, M1, M2, Q1, Q2, B1, B2, h1, h2, h3, h4, h5, h6, h7, h8, k1, k2, k3, k4⟩ := both false (Or.inl rfl)
        by_cases hl : val s a < val t b
        · rw [decide_eq_true hl] at hlt
          exact grows_small_lt_neg _ _ _ _ oad len cap up w S0 S1 hlen hS0 hS1 fS hlt cn c0 (neg_W true c hc) A1 A2 M1 M2 Q1 Q2 B1 B2 h1 h2 h3 h4 h5 h6 h7 h8 k1 k2 k3 k4
        · rw [decide_eq_false hl] at hlt
          rw [decide_eq_true (by omega)] at heq
          exact grows_small_eq_neg _ _ _ _ oad len cap up w S0 S1 hlen hS0 hS1 fS hlt heq cn c0 (neg_W true c hc) A1 A2 M1 M2 Q1 Q2 B1 B2 h1 h2 h3 h4 h5 h6 h7 h8 k1 k2 k3 k4
      · have hu : u = false ∨ c = 0 := by
          cases u
          · exact Or.inl rfl
          · exact Or.inr (Decidable.byContradiction fun h => hneg ⟨rfl, h⟩)
        have c0' : (u && decide (c ≠ 0)) = false := by
          rcases hu with h | h
          · rw [h]; rfl
          · rw [h]; simp
        rw [c0'] at c0
        obtain ⟨A1, A2, M1, M2, Q1, Q2, B1, B2, h1, h2, h3, h4, h5, h6, h7, h8, k1, k2, k3, k4⟩ := both u hu
        by_cases hl : val s a < val t b
        · rw [decide_eq_true hl] at hlt
          exact grows_small_lt_pos _ _ _ _ oad len cap up w S0 S1 hlen hS0 hS1 fS hlt cn c0 rfl A1 A2 M1 M2 Q1 Q2 B1 B2 h1 h2 h3 h4 h5 h6 h7 h8 k1 k2 k3 k4
        · rw [decide_eq_false hl] at hlt
          rw [decide_eq_true (by omega)] at heq
          exact grows_small_eq_pos _ _ _ _ oad len cap up w S0 S1 hlen hS0 hS1 fS hlt heq cn c0 rfl A1 A2 M1 M2 Q1 Q2 B1 B2 h1 h2 h3 h4 h5 h6 h7 h8 k1 k2 k3 k4
  · rw [decide_eq_false (by omega)] at hlt heq
    exact grows_small_no_skip _ _ _ 0 oad len cap up w S0 S1 hlen hS0 hS1 fS hlt heq
end Go.Proofs.Yteeppbkkgleagaa
