/-
  Proved: rosettelaw14.CutBack (digits are within their limits, none on top is 0, and they put together are the number; digits within the limits, put together and cut, are these) returns true for every whole number, row and width, in any memory and on any tape of answers; there is no condition.
-/
import Derived.Test.YtfbgckgemfkioaaU16
import Derived.Test.YtfbgckgemfkioaaU17
import Derived.Test.YtfbgckgemfkioaaRows
import Derived.WalkKit
import Derived.ProofKit
import Derived.OpenShut
import Derived.Laws.Cover2
import Derived.LaidMore
namespace Go.Proofs.Ytfbgckgemfkioaa
open Go.ChangeShapes Go.WideShapes Go.ChangeAt Go.RowKit
set_option linter.unusedVariables false

theorem own : ownKnob Try.prog.godebug = none := by kernel_rfl
/-! ### THE ROW's STEP -/
set_option maxRecDepth 100000 in
theorem cutBack_lifted (os : Os) (started : os.Started) (H : Type) (enc : TypeId × Value → H) :
    ReturnsInHanded {} Try.checked os 6 .any (Rows.cutBackSpec.pre6 enc Try.prog Try.f6 Rows.cutBackRow.domain false) (Rows.cutBackSpec.post enc Try.prog Try.f6 false true false false) := by
  refine returnsInHanded_of_change (C := Try.checked) own started (by kernel_rfl) Try.func6
    (ChangeSpec.witness6 (enc := enc) (C := Try.checked) false ⟨#[], #[.agg #[.bool false, .slice none 0 0], .slice none 0 0, .int .i64 0], []⟩ 8 (by kernel_rfl) (by kernel_rfl) (by kernel_rfl) (by kernel_rfl)) ?_
  intro W base args ds gs before hval0 hW hcnd _
  have hval : ∀ (j : Nat) t v, Try.f6.params[j]? = some t → args[j]? = some v → Value.okWide Try.prog W .any base t v := hval0
  have hW' := hW
  obtain ⟨p, q, hA0, hV, rfl, hfz, hnd⟩ := hW
  have hA : DataW.TrodAll enc Try.prog W 0 (fun _ => true) true Try.f6.params.toList args.toList ds p := hA0
  rw [Try.params6] at hA hval
  obtain ⟨v0, vs0, d0, ds0, p0, q0, hargs, rfl, rfl, h0, r0⟩ := trodAll_cons hA
  obtain ⟨v1, vs1, d1, ds1, p1, q1, rfl, rfl, rfl, h1, r1⟩ := trodAll_cons r0
  obtain ⟨v2, vs2, d2, ds2, p2, q2, rfl, rfl, rfl, h2, r2⟩ := trodAll_cons r1
  obtain ⟨rfl, rfl, rfl⟩ := trodAll_nil r2
  obtain rfl : args = #[v0, v1, v2] := by cases args; simp_all
  obtain ⟨rfl, rfl⟩ := trodVars_none hV
  obtain ⟨c0, rfl, _⟩ := okWide_struct Try.underlying24 (hval 0 24 v0 rfl rfl)
  obtain ⟨f0, t0⟩ := id h0
  obtain ⟨sg0, ad0, n0, cp0, xs0, E0, rr0, bb0⟩ := open_whint (v := .agg c0) ⟨c0, rfl, rfl⟩ t0
  obtain ⟨ad1, n1, cp1, xs1, rfl, hr1, hi1⟩ := openL (hval 1 27 v1 rfl rfl) h1
  obtain ⟨a2, rfl, rfl, rfl, w2⟩ := open_int Try.underlying3 (hval 2 3 v2 rfl rfl) h2
  have b2 : -9223372036854775808 ≤ a2 ∧ a2 ≤ 9223372036854775807 := by
    have g1 : IntKind.i64.min = -9223372036854775808 := rfl
    have g2 : IntKind.i64.max = 9223372036854775807 := rfl
    have := w2
    simp [Lit.wf] at this
    omega
  clear hA0 hval0
  simp only [List.append_nil] at hW'
  have hlt : ∀ x ∈ p0 ++ p1, x.block < W.heap.size := fun x hx => by simpa using hW'.lt x (by simpa using hx)
  rw [E0]
  refine (backP sg0 ad0 n0 cp0 xs0 rr0 bb0 ad1 n1 cp1 xs1 hr1 hi1 a2 b2.1 b2.2).mono fun e W' ⟨he, hg⟩ => ?_
  subst he
  rw [← E0]
  have stayL : ∀ (v : Value) (d : DataW H) (pp : List MemPlace), DataW.Trod enc Try.prog W 0 (fun _ => true) true 27 v d pp → (∀ x ∈ pp, x.block < W.heap.size) → DataW.Trod enc Try.prog W' 0 (fun b => decide (b < W.heap.size)) true 27 v d pp := fun v d pp hh hl =>
    WideElems.Trod_stays (sp' := fun b => decide (b < W.heap.size)) laidOut (by kernel_rfl) (of_decide_eq_true (by kernel_rfl)) hh (fun x hx => hg.same (hl x hx)) (fun x hx => by simpa using hl x hx)
  have stayN : ∀ (v : Value) (d : DataW H) (pp : List MemPlace), DataW.Trod enc Try.prog W 0 (fun _ => true) true 24 v d pp → (∀ x ∈ pp, x.block < W.heap.size) → DataW.Trod enc Try.prog W' 0 (fun b => decide (b < W.heap.size)) true 24 v d pp := fun v d pp hh hl =>
    WideElems.Trod_stays (sp' := fun b => decide (b < W.heap.size)) laidOut (by kernel_rfl) (of_decide_eq_true (by kernel_rfl)) hh (fun x hx => hg.same (hl x hx)) (fun x hx => by simpa using hl x hx)
  have hargs' : DataW.TrodAll enc Try.prog W' 0 (fun b => decide (b < W.heap.size)) true [24, 27, 3] [.agg c0, .slice ad1 n1 cp1, .int .i64 a2] [d0, d1, .lit (.int .i64 a2)] (p0 ++ p1) := by
    have := (trodAll_cons_mk (stayN _ _ _ h0 (fun x hx => hlt x (by simp [hx]))) (trodAll_cons_mk (stayL _ _ _ h1 (fun x hx => hlt x (by simp [hx]))) (trodAll_cons_mk (shut_int (enc := enc) (w := W') (base := 0) (spare := fun b => decide (b < W.heap.size)) (held := true) Try.underlying3 w2) trodAll_mk0)))
    simpa using this
  exact ⟨_, rfl, _, _, _, [], p0 ++ p1, [], hW', (trodAll_cons_mk (shut_bool Try.underlying4 _) trodAll_mk0), hargs', rfl, hg.frame _, fun h => by cases h⟩

theorem cutBack_over : Rows.cutBackRow.holds Try.pinned (OpenSpec.ofChange Rows.cutBackSpec) :=
  OpenClaim.holds_of_wide 6 Try.f6 rfl rfl rfl rfl rfl rfl rfl ⟨rfl, rfl, rfl, rfl, rfl⟩ rfl rfl rfl rfl rfl (by kernel_rfl) Try.func6 (by kernel_rfl)
    (of_decide_eq_true (by kernel_rfl)) (by unfold Func.isWrapper; first | (rw [if_pos (by decide +kernel)]; kernel_rfl) | (rw [if_neg (by decide +kernel)]; exact ⟨rfl, rfl⟩))
    (fun os started H enc _ => cutBack_lifted os started H enc)

theorem cutBack_proved : Rows.CutBackSaid :=
  cutBack_over
#print axioms cutBack_proved
end Go.Proofs.Ytfbgckgemfkioaa
