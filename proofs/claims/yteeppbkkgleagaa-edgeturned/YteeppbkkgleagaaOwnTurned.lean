/-
  Proved: rosettelaw02.EdgeTurned (with all signs turned down is up, its sign turned; sums and products do not hang on the order; Go's own sum and product are told by one side or the other) returns true for every two float64 and either side, in any memory and on any tape of answers; there is no condition.
-/
import Derived.Test.YteeppbkkgleagaaRows
import Derived.Test.YteeppbkkgleagaaT3
import Derived.Test.YteeppbkkgleagaaT4
import Derived.WalkKit
import Derived.ProofKit
import Derived.OpenShut
import Derived.Laws.Cover2
namespace Go.Proofs.Yteeppbkkgleagaa
open Go.ChangeShapes Go.WideShapes Go.ChangeAt Go.RowKit
open Ieee
set_option linter.unusedVariables false

theorem own : ownKnob Try.prog.godebug = none := by kernel_rfl

theorem turned (s t : Bool) (a b : Nat) (up : Bool) (w : World) (ha : a < 9223372036854775808) (hb : b < 9223372036854775808) :
    Calls Try.prog 7 #[.float .f64 (W s a), .float .f64 (W t b), .bool up] w fun e w' => e = .returned (.bool true) ∧ Grown w w' := by
  obtain ⟨A, sA, hA1⟩ := add11_spec s t a b up ha hb
  obtain ⟨A2, sA2, hA2⟩ := add11_spec (!s) (!t) a b (!up) ha hb
  obtain ⟨A3, sA3, hA3⟩ := add11_spec t s b a up hb ha
  obtain ⟨A4, sA4, hA4⟩ := add11_spec s (!t) a b up ha hb
  obtain ⟨A5, sA5, hA5⟩ := add11_spec s t a b (!up) ha hb
  obtain ⟨M1, sM, hM1⟩ := mul15_spec s t a b up ha hb
  obtain ⟨M2, sM2, hM2⟩ := mul15_spec (!s) t a b (!up) ha hb
  obtain ⟨M3, sM3, hM3⟩ := mul15_spec t s b a up hb ha
  obtain ⟨M4, sM4, hM4⟩ := mul15_spec s t a b (!up) ha hb
  obtain ⟨D, sD, hD1⟩ := div17_spec s t a b up ha hb
  obtain ⟨D2, sD2, hD2⟩ := div17_spec (!s) t a b (!up) ha hb
  have na := neg_W s a ha
  have nb := neg_W t b hb
  have hS := fun w => sub13 (W s a) (W t b) _ up w (OkR A4) nb hA4
  have f1 := same_neg (addSpec_neg s t a b up A A2 ha hb sA sA2)
  have f2 := same_neg (mulSpec_neg s t a b up M1 M2 ha hb sM sM2)
  have f3 := same_neg (divSpec_neg s t a b up D D2 ha hb sD sD2)
  have f4 := same_same (addSpec_comm s t a b up A A3 ha hb sA sA3)
  have f5 := same_same (mulSpec_comm s t a b up M1 M3 sM sM3)
  have f6 := same_same (o := A4) (o' := A4) rfl
  obtain ⟨bA, p1, p2⟩ := own_add s t a b up A A5 sA sA5
  obtain ⟨bM, q1, q2⟩ := own_mul s t a b up M1 M4 sM sM4
  cases up <;> cases bA <;> cases bM
  · exact turned_false_false_false _ _ _ _ A A2 A3 A4 A5 M1 M2 M3 M4 D D2 w na nb hA1 hA2 hA3 hA4 hA5 hM1 hM2 hM3 hM4 hD1 hD2 hS f1 f2 f3 f4 f5 f6 p1 p2 q1 q2
  · exact turned_false_false_true _ _ _ _ A A2 A3 A4 A5 M1 M2 M3 M4 D D2 w na nb hA1 hA2 hA3 hA4 hA5 hM1 hM2 hM3 hM4 hD1 hD2 hS f1 f2 f3 f4 f5 f6 p1 p2 q1 q2
  · exact turned_false_true_false _ _ _ _ A A2 A3 A4 A5 M1 M2 M3 M4 D D2 w na nb hA1 hA2 hA3 hA4 hA5 hM1 hM2 hM3 hM4 hD1 hD2 hS f1 f2 f3 f4 f5 f6 p1 p2 q1 q2
  · exact turned_false_true_true _ _ _ _ A A2 A3 A4 A5 M1 M2 M3 M4 D D2 w na nb hA1 hA2 hA3 hA4 hA5 hM1 hM2 hM3 hM4 hD1 hD2 hS f1 f2 f3 f4 f5 f6 p1 p2 q1 q2
  · exact turned_true_false_false _ _ _ _ A A2 A3 A4 A5 M1 M2 M3 M4 D D2 w na nb hA1 hA2 hA3 hA4 hA5 hM1 hM2 hM3 hM4 hD1 hD2 hS f1 f2 f3 f4 f5 f6 p1 p2 q1 q2
  · exact turned_true_false_true _ _ _ _ A A2 A3 A4 A5 M1 M2 M3 M4 D D2 w na nb hA1 hA2 hA3 hA4 hA5 hM1 hM2 hM3 hM4 hD1 hD2 hS f1 f2 f3 f4 f5 f6 p1 p2 q1 q2
  · exact turned_true_true_false _ _ _ _ A A2 A3 A4 A5 M1 M2 M3 M4 D D2 w na nb hA1 hA2 hA3 hA4 hA5 hM1 hM2 hM3 hM4 hD1 hD2 hS f1 f2 f3 f4 f5 f6 p1 p2 q1 q2
  · exact turned_true_true_true _ _ _ _ A A2 A3 A4 A5 M1 M2 M3 M4 D D2 w na nb hA1 hA2 hA3 hA4 hA5 hM1 hM2 hM3 hM4 hD1 hD2 hS f1 f2 f3 f4 f5 f6 p1 p2 q1 q2

theorem walk (a0 : Nat) (a1 : Nat) (a2 : Bool) (w0 : (Lit.float .f64 a0).wf = true) (w1 : (Lit.float .f64 a1).wf = true) (w : World) :
    Calls Try.prog 7 #[.float .f64 a0, .float .f64 a1, .bool a2] w fun e w' => e = .returned (.bool true) ∧ Grown w w' := by
  have hlt0 : a0 < 18446744073709551616 := by simpa [Lit.wf] using w0
  have hlt1 : a1 < 18446744073709551616 := by simpa [Lit.wf] using w1
  obtain ⟨s, r, rfl, hr⟩ := W_split a0 hlt0
  obtain ⟨t, q, rfl, hq⟩ := W_split a1 hlt1
  exact turned s t r q a2 w hr hq

/-! ### THE ROW's STEP -/
set_option maxRecDepth 100000 in
theorem lifted (os : Os) (started : os.Started) (H : Type) (enc : TypeId × Value → H) :
    ReturnsInHanded {} Try.checked os 7 .any (Rows.edgeTurnedSpec.pre6 enc Try.prog Try.f7 Rows.edgeTurnedRow.domain false) (Rows.edgeTurnedSpec.post enc Try.prog Try.f7 false true false false) := by
  refine returnsInHanded_of_change (C := Try.checked) own started (by kernel_rfl) Try.func7
    (ChangeSpec.witness6 (enc := enc) (C := Try.checked) false ⟨#[], #[.float .f64 0, .float .f64 0, .bool false], []⟩ 8 (by kernel_rfl) (by kernel_rfl) (by kernel_rfl) (by kernel_rfl)) ?_
  intro W base args ds gs before hval0 hW hcnd _
  have hval : ∀ (j : Nat) t v, Try.f7.params[j]? = some t → args[j]? = some v → Value.okWide Try.prog W .any base t v := hval0
  have hW' := hW
  obtain ⟨p, q, hA0, hV, rfl, hfz, hnd⟩ := hW
  have hA : DataW.TrodAll enc Try.prog W 0 (fun _ => true) true Try.f7.params.toList args.toList ds p := hA0
  rw [Try.params7] at hA hval
  obtain ⟨v0, vs0, d0, ds0, p0, q0, hargs, rfl, rfl, h0, r0⟩ := trodAll_cons hA
  obtain ⟨v1, vs1, d1, ds1, p1, q1, rfl, rfl, rfl, h1, r1⟩ := trodAll_cons r0
  obtain ⟨v2, vs2, d2, ds2, p2, q2, rfl, rfl, rfl, h2, r2⟩ := trodAll_cons r1
  obtain ⟨rfl, rfl, rfl⟩ := trodAll_nil r2
  obtain rfl : args = #[v0, v1, v2] := by cases args; simp_all
  obtain ⟨rfl, rfl⟩ := trodVars_none hV
  obtain ⟨a0, rfl, rfl, rfl, w0⟩ := open_float Try.underlying22 (hval 0 22 v0 rfl rfl) h0
  obtain ⟨a1, rfl, rfl, rfl, w1⟩ := open_float Try.underlying22 (hval 1 22 v1 rfl rfl) h1
  obtain ⟨a2, rfl, rfl, rfl⟩ := open_bool Try.underlying4 (hval 2 4 v2 rfl rfl) h2
  clear hA0 hval0
  simp only [List.append_nil] at hW'
  refine (walk a0 a1 a2 w0 w1 W).mono fun e W' ⟨he, hg⟩ => ?_
  subst he
  exact ⟨_, rfl, post_of_same (pa := []) (pv := []) hW' (fun _ _ _ => (trodAll_cons_mk (shut_bool Try.underlying4 _) trodAll_mk0)) (fun sp _ => (trodAll_cons_mk (shut_float Try.underlying22 w0) (trodAll_cons_mk (shut_float Try.underlying22 w1) (trodAll_cons_mk (shut_bool Try.underlying4 _) trodAll_mk0)))) (fun _ _ => rfl) rfl
    (hg.frame _) hg.2.1 (ok_one (by kernel_rfl) rfl (okWide_bool_mk Try.underlying4 _))⟩

theorem over : Rows.edgeTurnedRow.holds Try.pinned (OpenSpec.ofChange Rows.edgeTurnedSpec) :=
  OpenClaim.holds_of_wide 7 Try.f7 rfl rfl rfl rfl rfl rfl rfl ⟨rfl, rfl, rfl, rfl, rfl⟩ rfl rfl rfl rfl rfl (by kernel_rfl) Try.func7 (by kernel_rfl)
    (of_decide_eq_true (by kernel_rfl)) (by unfold Func.isWrapper; first | (rw [if_pos (by decide +kernel)]; kernel_rfl) | (rw [if_neg (by decide +kernel)]; exact ⟨rfl, rfl⟩))
    (fun os started H enc _ => lifted os started H enc)

theorem edgeTurned_proved : Rows.EdgeTurnedSaid :=
  over
#print axioms edgeTurned_proved
end Go.Proofs.Yteeppbkkgleagaa
