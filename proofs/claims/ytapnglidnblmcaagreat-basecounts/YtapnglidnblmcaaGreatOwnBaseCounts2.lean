/-
  Proved: rosettelaw19.BaseCounts (a number's size is at least the base to the power of its digits less 1, and below that of its digits; its digits are those of its text) returns true for every whole number and every base, in any memory that may be handed in, and leaves what is handed in as it was. No condition beyond the given statement's.
-/
import Derived.Test.YtapnglidnblmcaaGreatV43
import Derived.Test.YtapnglidnblmcaaGreatRows
import Derived.WalkKit
import Derived.ProofKit
import Derived.OpenShut
import Derived.Laws.Cover2
import Derived.LaidMore
namespace Go.Proofs.YtapnglidnblmcaaGreat
open Go.ChangeShapes Go.WideShapes Go.ChangeAt Go.RowKit
set_option linter.unusedVariables false

theorem own : ownKnob Tryz.prog.godebug = none := by kernel_rfl
/-! ### THE ROW's STEP -/
set_option maxRecDepth 100000 in
theorem baseCounts_lifted (os : Os) (started : os.Started) (H : Type) (enc : TypeId × Value → H) :
    ReturnsInHanded {} Tryz.checked os 5 .any (Rows.baseCountsSpec.pre6 enc Tryz.prog Tryz.f5 Rows.baseCountsRow.domain false) (Rows.baseCountsSpec.post enc Tryz.prog Tryz.f5 false true false false) := by
  refine returnsInHanded_of_change (C := Tryz.checked) own started (by kernel_rfl) Tryz.func5
    (ChangeSpec.witness6 (enc := enc) (C := Tryz.checked) false ⟨#[], #[.agg #[.bool false, .slice none 0 0], .int .i64 0], []⟩ 8 (by kernel_rfl) (by kernel_rfl) (by kernel_rfl) (by kernel_rfl)) ?_
  intro W base args ds gs before hval0 hW hcnd _
  have hval : ∀ (j : Nat) t v, Tryz.f5.params[j]? = some t → args[j]? = some v → Value.okWide Tryz.prog W .any base t v := hval0
  have hW' := hW
  obtain ⟨p, q, hA0, hV, rfl, hfz, hnd⟩ := hW
  have hA : DataW.TrodAll enc Tryz.prog W 0 (fun _ => true) true Tryz.f5.params.toList args.toList ds p := hA0
  rw [Tryz.params5] at hA hval
  obtain ⟨v0, vs0, d0, ds0, p0, q0, hargs, rfl, rfl, h0, r0⟩ := trodAll_cons hA
  obtain ⟨v1, vs1, d1, ds1, p1, q1, rfl, rfl, rfl, h1, r1⟩ := trodAll_cons r0
  obtain ⟨rfl, rfl, rfl⟩ := trodAll_nil r1
  obtain rfl : args = #[v0, v1] := by cases args; simp_all
  obtain ⟨rfl, rfl⟩ := trodVars_none hV
  obtain ⟨c0, rfl, _⟩ := okWide_struct Tryz.underlying40 (hval 0 40 v0 rfl rfl)
  obtain ⟨f0, t0⟩ := id h0
  obtain ⟨sg0, ad0, n0, cp0, xs0, E0, rr0, bb0⟩ := open_whole (v := .agg c0) ⟨c0, rfl, rfl⟩ t0
  obtain ⟨a1, rfl, rfl, rfl, w1⟩ := open_int Tryz.underlying3 (hval 1 3 v1 rfl rfl) h1
  have b1 : -9223372036854775808 ≤ a1 ∧ a1 ≤ 9223372036854775807 := by
    have g1 : IntKind.i64.min = -9223372036854775808 := rfl
    have g2 : IntKind.i64.max = 9223372036854775807 := rfl
    have := w1
    simp [Lit.wf] at this
    omega
  clear hA0 hval0
  simp only [List.append_nil] at hW'
  have hlt : ∀ x ∈ p0, x.block < W.heap.size := fun x hx => by simpa using hW'.lt x (by simpa using hx)
  rw [E0]
  refine (baseCountsP sg0 ad0 n0 cp0 xs0 rr0 bb0 a1 b1.1 b1.2).mono fun e W' ⟨he, hg⟩ => ?_
  subst he
  rw [← E0]
  have stayW : ∀ (v : Value) (d : DataW H) (pp : List MemPlace), DataW.Trod enc Tryz.prog W 0 (fun _ => true) true 40 v d pp → (∀ x ∈ pp, x.block < W.heap.size) → DataW.Trod enc Tryz.prog W' 0 (fun b => decide (b < W.heap.size)) true 40 v d pp := fun v d pp hh hl =>
    WideElems.Trod_stays (sp' := fun b => decide (b < W.heap.size)) laidOut (by kernel_rfl) (of_decide_eq_true (by kernel_rfl)) hh (fun x hx => hg.same (hl x hx)) (fun x hx => by simpa using hl x hx)
  have hargs' : DataW.TrodAll enc Tryz.prog W' 0 (fun b => decide (b < W.heap.size)) true [40, 3] [.agg c0, .int .i64 a1] [d0, .lit (.int .i64 a1)] (p0) := by
    have := (trodAll_cons_mk (stayW _ _ _ h0 (fun x hx => hlt x (by simp [hx]))) (trodAll_cons_mk (shut_int (enc := enc) (w := W') (base := 0) (spare := fun b => decide (b < W.heap.size)) (held := true) Tryz.underlying3 w1) trodAll_mk0))
    simpa using this
  exact ⟨_, rfl, _, _, _, [], p0, [], hW', (trodAll_cons_mk (shut_bool Tryz.underlying4 _) trodAll_mk0), hargs', rfl, hg.frame _, fun h => by cases h⟩

theorem baseCounts_over : Rows.baseCountsRow.holds Tryz.pinned (OpenSpec.ofChange Rows.baseCountsSpec) :=
  OpenClaim.holds_of_wide 5 Tryz.f5 rfl rfl rfl rfl rfl rfl rfl ⟨rfl, rfl, rfl, rfl, rfl⟩ rfl rfl rfl rfl rfl (by kernel_rfl) Tryz.func5 (by kernel_rfl)
    (of_decide_eq_true (by kernel_rfl)) (by unfold Func.isWrapper; first | (rw [if_pos (by decide +kernel)]; kernel_rfl) | (rw [if_neg (by decide +kernel)]; exact ⟨rfl, rfl⟩))
    (fun os started H enc _ => baseCounts_lifted os started H enc)

theorem baseCounts_proved : Rows.BaseCountsSaid :=
  baseCounts_over
#print axioms baseCounts_proved
end Go.Proofs.YtapnglidnblmcaaGreat
