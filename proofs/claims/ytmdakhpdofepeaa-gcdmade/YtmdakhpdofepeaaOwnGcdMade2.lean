/-
  GcdMade: g divides both, and is made of both; Lcm times g is the size of the product.
-/
import Derived.Test.YtmdakhpdofepeaaU45
import Derived.Test.YtmdakhpdofepeaaU46
import Derived.Test.YtmdakhpdofepeaaRows
import Derived.WalkKit
import Derived.ProofKit
import Derived.OpenShut
import Derived.Laws.Cover2
import Derived.LaidMore
namespace Go.Proofs.Ytmdakhpdofepeaa
open Go.ChangeShapes Go.WideShapes Go.ChangeAt Go.RowKit
set_option linter.unusedVariables false

theorem own : ownKnob Try.prog.godebug = none := by kernel_rfl
/-! ### THE ROW's STEP -/
set_option maxRecDepth 100000 in
theorem gcdMade_lifted (os : Os) (started : os.Started) (H : Type) (enc : TypeId × Value → H) :
    ReturnsInHanded {} Try.checked os 3 .any (Rows.gcdMadeSpec.pre6 enc Try.prog Try.f3 Rows.gcdMadeRow.domain false) (Rows.gcdMadeSpec.post enc Try.prog Try.f3 false true false false) := by
  refine returnsInHanded_of_change (C := Try.checked) own started (by kernel_rfl) Try.func3
    (ChangeSpec.witness6 (enc := enc) (C := Try.checked) false ⟨#[], #[.agg #[.bool false, .slice none 0 0], .agg #[.bool false, .slice none 0 0]], []⟩ 8 (by kernel_rfl) (by kernel_rfl) (by kernel_rfl) (by kernel_rfl)) ?_
  intro W base args ds gs before hval0 hW hcnd _
  have hval : ∀ (j : Nat) t v, Try.f3.params[j]? = some t → args[j]? = some v → Value.okWide Try.prog W .any base t v := hval0
  have hW' := hW
  obtain ⟨p, q, hA0, hV, rfl, hfz, hnd⟩ := hW
  have hA : DataW.TrodAll enc Try.prog W 0 (fun _ => true) true Try.f3.params.toList args.toList ds p := hA0
  rw [Try.params3] at hA hval
  obtain ⟨v0, vs0, d0, ds0, p0, q0, hargs, rfl, rfl, h0, r0⟩ := trodAll_cons hA
  obtain ⟨v1, vs1, d1, ds1, p1, q1, rfl, rfl, rfl, h1, r1⟩ := trodAll_cons r0
  obtain ⟨rfl, rfl, rfl⟩ := trodAll_nil r1
  obtain rfl : args = #[v0, v1] := by cases args; simp_all
  obtain ⟨rfl, rfl⟩ := trodVars_none hV
  obtain ⟨c0, rfl, _⟩ := okWide_struct Try.underlying24 (hval 0 24 v0 rfl rfl)
  obtain ⟨f0, t0⟩ := id h0
  obtain ⟨sg0, ad0, n0, cp0, xs0, E0, rr0, bb0⟩ := open_whint (v := .agg c0) ⟨c0, rfl, rfl⟩ t0
  obtain ⟨c1, rfl, _⟩ := okWide_struct Try.underlying24 (hval 1 24 v1 rfl rfl)
  obtain ⟨f1, t1⟩ := id h1
  obtain ⟨sg1, ad1, n1, cp1, xs1, E1, rr1, bb1⟩ := open_whint (v := .agg c1) ⟨c1, rfl, rfl⟩ t1
  clear hA0 hval0
  simp only [List.append_nil] at hW'
  have hlt : ∀ x ∈ p0 ++ p1, x.block < W.heap.size := fun x hx => by simpa using hW'.lt x (by simpa using hx)
  rw [E0, E1]
  refine (gcdMadeP sg0 ad0 n0 cp0 xs0 rr0 bb0 sg1 ad1 n1 cp1 xs1 rr1 bb1).mono fun e W' ⟨he, hg⟩ => ?_
  subst he
  rw [← E0, ← E1]
  have stayN : ∀ (v : Value) (d : DataW H) (pp : List MemPlace), DataW.Trod enc Try.prog W 0 (fun _ => true) true 24 v d pp → (∀ x ∈ pp, x.block < W.heap.size) → DataW.Trod enc Try.prog W' 0 (fun b => decide (b < W.heap.size)) true 24 v d pp := fun v d pp hh hl =>
    WideElems.Trod_stays (sp' := fun b => decide (b < W.heap.size)) laidOut (by kernel_rfl) (of_decide_eq_true (by kernel_rfl)) hh (fun x hx => hg.same (hl x hx)) (fun x hx => by simpa using hl x hx)
  have hargs' : DataW.TrodAll enc Try.prog W' 0 (fun b => decide (b < W.heap.size)) true [24, 24] [.agg c0, .agg c1] [d0, d1] (p0 ++ p1) := by
    have := (trodAll_cons_mk (stayN _ _ _ h0 (fun x hx => hlt x (by simp [hx]))) (trodAll_cons_mk (stayN _ _ _ h1 (fun x hx => hlt x (by simp [hx]))) trodAll_mk0))
    simpa using this
  exact ⟨_, rfl, _, _, _, [], p0 ++ p1, [], hW', (trodAll_cons_mk (shut_bool Try.underlying4 _) trodAll_mk0), hargs', rfl, hg.frame _, fun h => by cases h⟩

theorem gcdMade_over : Rows.gcdMadeRow.holds Try.pinned (OpenSpec.ofChange Rows.gcdMadeSpec) :=
  OpenClaim.holds_of_wide 3 Try.f3 rfl rfl rfl rfl rfl rfl rfl ⟨rfl, rfl, rfl, rfl, rfl⟩ rfl rfl rfl rfl rfl (by kernel_rfl) Try.func3 (by kernel_rfl)
    (of_decide_eq_true (by kernel_rfl)) (by unfold Func.isWrapper; first | (rw [if_pos (by decide +kernel)]; kernel_rfl) | (rw [if_neg (by decide +kernel)]; exact ⟨rfl, rfl⟩))
    (fun os started H enc _ => gcdMade_lifted os started H enc)

theorem gcdMade_proved : Rows.GcdMadeSaid :=
  gcdMade_over
#print axioms gcdMade_proved
end Go.Proofs.Ytmdakhpdofepeaa
