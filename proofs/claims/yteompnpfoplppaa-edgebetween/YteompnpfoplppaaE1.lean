import Derived.Test.YteompnpfoplppaaRg
namespace Go.Proofs.Yteompnpfoplppaa
open Go.RowKit
open Ieee
set_option linter.unusedVariables false

theorem grOf {P : Program} {f : FuncId} {args : Array Value} {w : World} {o : Option Nat} (h : Calls P f args w fun e w' => ∃ v, e = .returned (.float .f64 v) ∧ OkR o v ∧ Grown w w') : Calls P f args w fun e w' => ∃ v, e = .returned (.float .f64 v) ∧ OkR o v ∧ Gr w w' :=
  h.mono fun _ _ ⟨v, a, b, c⟩ => ⟨v, a, b, Gr.of_grown c⟩

set_option maxHeartbeats 1600000 in
theorem reckons_walk (a b : Nat) (up : Bool) (A S M' D Q : Option Nat) (w : World)
    (HA : Hid (∀ w, Calls Try.prog 8 #[.float .f64 a, .float .f64 b, .bool up] w fun e w' => ∃ v, e = .returned (.float .f64 v) ∧ OkR A v ∧ Gr w w')) (RA : Hid (∀ w, Calls Try.prog 9 #[.float .f64 a, .float .f64 b, .bool up] w fun e w' => ∃ v, e = .returned (.float .f64 v) ∧ OkR A v ∧ Gr w w'))
    (HS : Hid (∀ w, Calls Try.prog 10 #[.float .f64 a, .float .f64 b, .bool up] w fun e w' => ∃ v, e = .returned (.float .f64 v) ∧ OkR S v ∧ Gr w w')) (RS : Hid (∀ w, Calls Try.prog 11 #[.float .f64 a, .float .f64 b, .bool up] w fun e w' => ∃ v, e = .returned (.float .f64 v) ∧ OkR S v ∧ Gr w w'))
    (HM : Hid (∀ w, Calls Try.prog 12 #[.float .f64 a, .float .f64 b, .bool up] w fun e w' => ∃ v, e = .returned (.float .f64 v) ∧ OkR M' v ∧ Gr w w')) (RM : Hid (∀ w, Calls Try.prog 13 #[.float .f64 a, .float .f64 b, .bool up] w fun e w' => ∃ v, e = .returned (.float .f64 v) ∧ OkR M' v ∧ Gr w w'))
    (HD : Hid (∀ w, Calls Try.prog 14 #[.float .f64 a, .float .f64 b, .bool up] w fun e w' => ∃ v, e = .returned (.float .f64 v) ∧ OkR D v ∧ Gr w w')) (RD : Hid (∀ w, Calls Try.prog 15 #[.float .f64 a, .float .f64 b, .bool up] w fun e w' => ∃ v, e = .returned (.float .f64 v) ∧ OkR D v ∧ Gr w w'))
    (HQ : Hid (∀ w, Calls Try.prog 16 #[.float .f64 a, .bool up] w fun e w' => ∃ v, e = .returned (.float .f64 v) ∧ OkR Q v ∧ Gr w w')) (RQ : Hid (∀ w, Calls Try.prog 17 #[.float .f64 a, .bool up] w fun e w' => ∃ v, e = .returned (.float .f64 v) ∧ OkR Q v ∧ Gr w w')) :
    Calls Try.prog 3 #[.float .f64 a, .float .f64 b, .bool up] w fun e w' => e = .returned (.bool true) ∧ Gr w w' := by
  have F : Hid (∀ o v v', OkR o v → OkR o v' → sameB v v' = true) := fun o v v' => same_same (o := o) (o' := o) rfl v v'
  go_enter Try.func3, Try.ntmps3
  go_wp2_with (first | (go_at_call 6; refine (awake4 _).mono ?_; rintro e w' ⟨rfl, rfl⟩) | (go_at_call 8; with_reducible refine (HA.out _).mono ?_; rintro e w1 ⟨v1, rfl, o1, g1⟩) | (go_at_call 9; with_reducible refine (RA.out _).mono ?_; rintro e w2 ⟨v2, rfl, o2, g2⟩; have f := F.out _ _ _ o1 o2) | (go_at_call 10; with_reducible refine (HS.out _).mono ?_; rintro e w3 ⟨v3, rfl, o3, g3⟩) | (go_at_call 11; with_reducible refine (RS.out _).mono ?_; rintro e w4 ⟨v4, rfl, o4, g4⟩; have f := F.out _ _ _ o3 o4) | (go_at_call 12; with_reducible refine (HM.out _).mono ?_; rintro e w5 ⟨v5, rfl, o5, g5⟩) | (go_at_call 13; with_reducible refine (RM.out _).mono ?_; rintro e w6 ⟨v6, rfl, o6, g6⟩; have f := F.out _ _ _ o5 o6) | (go_at_call 14; with_reducible refine (HD.out _).mono ?_; rintro e w7 ⟨v7, rfl, o7, g7⟩) | (go_at_call 15; with_reducible refine (RD.out _).mono ?_; rintro e w8 ⟨v8, rfl, o8, g8⟩; have f := F.out _ _ _ o7 o8) | (go_at_call 16; with_reducible refine (HQ.out _).mono ?_; rintro e w9 ⟨v9, rfl, o9, g9⟩) | (go_at_call 17; with_reducible refine (RQ.out _).mono ?_; rintro e w10 ⟨v10, rfl, o10, g10⟩; have f := F.out _ _ _ o9 o10) | (go_at_call 7; refine (same_true _ _ _ (by assumption)).mono ?_; rintro e w' ⟨rfl, rfl⟩))
  go_ret
  exact ⟨rfl, ((((((((g1.trans g2).trans g3).trans g4).trans g5).trans g6).trans g7).trans g8).trans g9).trans g10⟩

theorem reckons (s t : Bool) (a b : Nat) (up : Bool) (w : World) (ha : a < 9223372036854775808) (hb : b < 9223372036854775808) :
    Calls Try.prog 3 #[.float .f64 (W s a), .float .f64 (W t b), .bool up] w fun e w' => e = .returned (.bool true) ∧ Gr w w' := by
  obtain ⟨A, sA, hA⟩ := add11_spec s t a b up ha hb
  obtain ⟨A', sA', hA'⟩ := radd_spec s t a b up ha hb
  obtain ⟨S, sS, hS⟩ := add11_spec s (!t) a b up ha hb
  obtain ⟨S', sS', hS'⟩ := radd_spec s (!t) a b up ha hb
  obtain ⟨M', sM, hM⟩ := mul15_spec s t a b up ha hb
  obtain ⟨M'', sM', hM'⟩ := rmul_spec s t a b up ha hb
  obtain ⟨D, sD, hD⟩ := div17_spec s t a b up ha hb
  obtain ⟨D', sD', hD'⟩ := rdiv_spec s t a b up ha hb
  obtain ⟨Q, sQ, hQ⟩ := sqrt19_spec s a up ha
  obtain ⟨Q', sQ', hQ'⟩ := rsqrt_spec s a up ha
  obtain rfl := addSpec_unique sA sA'
  obtain rfl := addSpec_unique sS sS'
  obtain rfl := mulSpec_unique sM sM'
  obtain rfl := divSpec_unique sD sD'
  obtain rfl := sqrtSpec_unique sQ sQ'
  have nb := neg_W t b hb
  exact reckons_walk (W s a) (W t b) up _ _ _ _ _ w (fun w => grOf (hA w)) hA' (fun w => grOf (sub13 (W s a) (W t b) _ up w _ nb hS)) (fun w => rsub11 (W s a) (W t b) _ up w _ nb hS') (fun w => grOf (hM w)) hM' (fun w => grOf (hD w)) hD' (fun w => grOf (hQ w)) hQ'
end Go.Proofs.Yteompnpfoplppaa
