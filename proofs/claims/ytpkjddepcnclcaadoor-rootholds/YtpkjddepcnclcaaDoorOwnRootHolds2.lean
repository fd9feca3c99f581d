/-
  Proved: Proved: rosettelaw18.RootHolds (a root to the power n is not above, the next number's is; the rest of a square root is from 0 to twice the root) returns true for every number, right or not, of any length, and every n, in any memory that holds the library's table and on any tape of answers; there is no other condition.
-/
import Derived.Test.YtpkjddepcnclcaaDoorA38
import Derived.Test.YtpkjddepcnclcaaDoorA39
import Derived.Test.YtpkjddepcnclcaaDoorRows
import Derived.Test.YtpkjddepcnclcaaDoorCards
import Derived.Test.YtpkjddepcnclcaaDoorTie
import Derived.SevenTiedAt
namespace Go.Proofs.YtpkjddepcnclcaaDoor
open Go.ChangeShapes Go.WideShapes Go.ChangeAt Go.RowKit
set_option linter.unusedVariables false

set_option maxRecDepth 100000 in
theorem rootHolds_lifted (os : Os) (started : os.Started) (H : Type) (enc : TypeId × Value → H) :
    ReturnsInHanded {} Tryd.checked os 3 .any (fun w args => (Rows.rootHoldsSpec.pre enc Tryd.prog Tryd.f3 [] false w args ∧ laidMetH Tryd.prog [("math/bits.deBruijn64tab", Rows.laid_math_bits_deBruijn64tab)] w) ∧ sizedMet enc Tryd.prog Tryd.f3 (OpenSpec.ofChange Rows.rootHoldsSpec) false w args)
      (Rows.rootHoldsSpec.post enc Tryd.prog Tryd.f3 false true false false) := by
  refine returnsInHanded_of_change_and (C := Tryd.checked) (X := fun w _ => laidMetH Tryd.prog [("math/bits.deBruijn64tab", Rows.laid_math_bits_deBruijn64tab)] w) (fun _ _ _ hh h => h.of_heap hh) own started (by kernel_rfl) Tryd.func3
    (ChangeSpec.witness_shaped (enc := enc) (C := Tryd.checked) (os := os) (X := fun w _ => laidMetH Tryd.prog [("math/bits.deBruijn64tab", Rows.laid_math_bits_deBruijn64tab)] w) false (World.doorLaid Tryd.prog 400 os) #[.agg #[.bool false, .slice none 0 0], .int .i64 0] 8 rfl (World.shaped_of_RefB (by kernel_rfl) (by kernel_rfl)) (by kernel_rfl) (by kernel_rfl) (by kernel_rfl) (door_met os _)) ?_
  intro W base args ds gs before hval0 hW _ hZ hL _
  have hval : ∀ (j : Nat) t v, Tryd.f3.params[j]? = some t → args[j]? = some v → Value.okWide Tryd.prog W .any base t v := hval0
  have hW' := hW
  obtain ⟨p, q, hA0, hV, rfl, hfz, hnd⟩ := hW
  have hA : DataW.TrodAll enc Tryd.prog W 0 (fun _ => true) true Tryd.f3.params.toList args.toList ds p := hA0
  rw [Tryd.params3] at hA hval
  obtain ⟨v0, vs0, d0, ds0, p0, q0, hargs, rfl, rfl, h0, r0⟩ := trodAll_cons hA
  obtain ⟨v1, vs1, d1, ds1, p1, q1, rfl, rfl, rfl, h1, r1⟩ := trodAll_cons r0
  obtain ⟨rfl, rfl, rfl⟩ := trodAll_nil r1
  obtain rfl : args = #[v0, v1] := by cases args; simp_all
  obtain ⟨rfl, rfl⟩ := trodVars_none hV
  obtain ⟨c0, rfl, _⟩ := okWide_struct Tryd.underlying24 (hval 0 24 v0 rfl rfl)
  obtain ⟨f0, t0⟩ := id h0
  obtain ⟨sg0, ad0, n0, cp0, xs0, E0, rr0, bb0⟩ := open_whint (v := .agg c0) ⟨c0, rfl, rfl⟩ t0
  obtain ⟨a1, rfl, rfl, rfl, w1⟩ := open_int Tryd.underlying3 (hval 1 3 v1 rfl rfl) h1
  have b1 : -9223372036854775808 ≤ a1 ∧ a1 ≤ 9223372036854775807 := by
    have g1 : IntKind.i64.min = -9223372036854775808 := rfl
    have g2 : IntKind.i64.max = 9223372036854775807 := rfl
    have := w1
    simp [Lit.wf] at this
    omega
  have hT := tab_of_laid hL
  clear hA0 hval0
  simp only [List.append_nil] at hW'
  have hlt : ∀ x ∈ p0, x.block < W.heap.size := fun x hx => by simpa using hW'.lt x (by simpa using hx)
  rw [E0]
  refine (rootHoldsQ sg0 ad0 n0 cp0 xs0 a1 W rr0 bb0 b1.1 b1.2 hT).mono fun e W' ⟨he, hg⟩ => ?_
  subst he
  rw [← E0]
  have stayN : ∀ (v : Value) (d : DataW H) (pp : List MemPlace), DataW.Trod enc Tryd.prog W 0 (fun _ => true) true 24 v d pp → (∀ x ∈ pp, x.block < W.heap.size) → DataW.Trod enc Tryd.prog W' 0 (fun b => decide (b < W.heap.size)) true 24 v d pp := fun v d pp hh hl =>
    WideElems.Trod_stays (sp' := fun b => decide (b < W.heap.size)) laidOut (by kernel_rfl) (of_decide_eq_true (by kernel_rfl)) hh (fun x hx => hg.same (hl x hx)) (fun x hx => by simpa using hl x hx)
  have hargs' : DataW.TrodAll enc Tryd.prog W' 0 (fun b => decide (b < W.heap.size)) true [24, 3] [.agg c0, .int .i64 a1] [d0, .lit (.int .i64 a1)] (p0) := by
    have := (trodAll_cons_mk (stayN _ _ _ h0 (fun x hx => hlt x (by simp [hx]))) (trodAll_cons_mk (shut_int (enc := enc) (w := W') (base := 0) (spare := fun b => decide (b < W.heap.size)) (held := true) Tryd.underlying3 w1) trodAll_mk0))
    simpa using this
  exact ⟨_, rfl, _, _, _, [], p0, [], hW', (trodAll_cons_mk (shut_bool Tryd.underlying4 _) trodAll_mk0), hargs', rfl, hg.frame _, fun h => by cases h⟩

theorem rootHolds_over : Rows.RootHoldsSaid :=
  OpenClaim.holds_of_wide 3 Tryd.f3 rfl rfl rfl rfl rfl rfl rfl ⟨rfl, rfl, rfl, rfl, rfl⟩ rfl rfl rfl rfl rfl (by kernel_rfl) Tryd.func3 (by kernel_rfl)
    (of_decide_eq_true (by kernel_rfl)) (by unfold Func.isWrapper; first | (rw [if_pos (by decide +kernel)]; kernel_rfl) | (rw [if_neg (by decide +kernel)]; exact ⟨rfl, rfl⟩))
    (fun os started H enc _ => rootHolds_lifted os started H enc)

theorem rootHolds_proved : Rows.RootHoldsCardSaid :=
  Claim7.holds_tied_plain_at .later [] [.data] true (true, "c9e0e6a0401bb06f5b7543c2c837d5d58e56241a959a9911d64634cad7277c49") false
    rootHolds_over (fun _ h => by cases h) (by kernel_rfl) (fun _ h => by cases h) rootHolds_row_tie rfl ⟨rfl, rfl⟩ (by kernel_rfl) rfl
    (fun f fn hf hfn => by
      obtain rfl : f = 3 := Option.some.inj ((show Tryd.prog.funcNamed "rosette/rosettelaw18.RootHolds" = some 3 by kernel_rfl).symm.trans hf) |>.symm
      obtain rfl : fn = Tryd.f3 := (Option.some.inj (Tryd.func3.symm.trans hfn)).symm
      exact ⟨by kernel_rfl, fun j t ht => by
        rw [Tryd.params3] at ht
        have hm : t ∈ [24, 3] := by simpa using Array.mem_of_getElem? ht
        have hall : ([24, 3].all fun u => !Tryd.prog.wantsStandIn u) = true := by kernel_rfl
        exact (show Tryd.prog.wantsStandIn t = false by simpa using List.all_eq_true.1 hall t (by simpa using hm))⟩)
    (by kernel_rfl)
#print axioms rootHolds_proved
end Go.Proofs.YtpkjddepcnclcaaDoor
