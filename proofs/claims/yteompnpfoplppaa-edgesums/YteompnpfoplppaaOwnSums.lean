/-
  Proved: rosettelaw02.EdgeSums (a row's sum, rounded to either side after each number, is the document's to the bit, and the row stays as it was with its spare room) returns true for every row of float64 (nil, empty, of any length; the first 3000 are summed) and either side, in any memory and on any tape of answers; there is no condition.
-/
import Derived.Test.YteompnpfoplppaaRows
import Derived.Test.YteompnpfoplppaaF4
import Derived.WalkKit
import Derived.ProofKit
import Derived.OpenShut
import Derived.Laws.Cover2
import Derived.ChangeSlices
import Derived.Carry
namespace Go.Proofs.Yteompnpfoplppaa
open Go.ChangeShapes Go.WideShapes Go.ChangeAt Go.RowKit
open Ieee
set_option linter.unusedVariables false

theorem own : ownKnob Try.prog.godebug = none := by kernel_rfl
theorem laidOut : laidOutB Try.prog = true := by kernel_rfl
theorem cells22 : Try.prog.cellsOf 22 = 1 := by kernel_rfl

theorem trod_flt {H : Type} {enc : TypeId × Value → H} {P : Program} {w : World} {base : Nat} {spare : Nat → Bool} {held : Bool} {e : TypeId} {k : FloatKind} {fuel : Nat} {cs : List Value} {x : DataW H × List MemPlace} (ht : P.underlying e = some (.float k)) (h : DataW.trod enc P w base spare held fuel e cs = some x) : ∃ b, cs = [.float k b] ∧ (Lit.float k b).wf = true := by
  cases fuel with
  | zero => simp [DataW.trod] at h
  | succ n =>
    unfold DataW.trod at h
    rw [ht] at h
    split at h <;> simp_all
/-- a row of floats, opened: its cells -/
theorem open_flts {H : Type} {enc : TypeId × Value → H} {P : Program} {w : World} {base : Nat} {spare : Nat → Bool} {held : Bool} {t e : TypeId} {k : FloatKind} {fuel : Nat} {cs : List Value} {x : DataW H × List MemPlace} (ht : P.underlying t = some (.slice e)) (he : P.underlying e = some (.float k)) (hc : P.cellsOf e = 1)
    (h : DataW.trod enc P w base spare held fuel t cs = some x) :
    cs = [.slice none 0 0] ∨ ∃ (a : Addr) (len cap : Nat), cs = [.slice (some a) len cap] ∧ len ≤ cap ∧ cap ≤ maxLen ∧ ∀ i, i < len → ∃ y, w.cell? (a.add i) = some (.float k y) ∧ (Lit.float k y).wf = true := by
  rcases DataW.trod_slice ht h with h0 | ⟨a, len, cap, elems, rest, n, _, rfl, rfl, hb, hl, hm, hlen, hel, hsp, hns⟩
  · exact Or.inl h0.1
  · refine Or.inr ⟨a, len, cap, rfl, hl, hm, fun i hi => ?_⟩
    have h1 := hel i hi
    have h2 : elems[i]? = some elems[i] := List.getElem?_eq_getElem (by omega)
    rw [h2, hc, Nat.mul_one, Option.bind_eq_some_iff] at h1
    obtain ⟨cs', hcs, hy'⟩ := h1
    obtain ⟨y, rfl, hw⟩ := trod_flt he hy'
    exact ⟨y, cell_of_cells?_one hcs, hw⟩

theorem walk (ad : Option Addr) (len cap : Nat) (a1 : Bool) (w : World)
    (hsl : (ad = none ∧ len = 0 ∧ cap = 0) ∨ ∃ a, ad = some a ∧ len ≤ cap ∧ cap ≤ maxLen ∧ ∀ i, i < len → ∃ y, w.cell? (a.add i) = some (.float .f64 y) ∧ (Lit.float .f64 y).wf = true) :
    Calls Try.prog 4 #[.slice ad len cap, .bool a1] w fun e w' => e = .returned (.bool true) ∧ Gr w w' := by
  rcases hsl with ⟨rfl, rfl, rfl⟩ | ⟨a, rfl, hlc, hm, hc⟩
  · exact sums_law none 0 0 (fun _ => (false, 0)) a1 w (fun j hj => absurd hj (by omega)) ⟨by omega, by omega, fun _ => rfl, fun h => absurd h (by omega)⟩
  · have hm' : cap ≤ 9223372036854775807 := by unfold maxLen at hm; omega
    by_cases hl0 : len = 0
    · subst hl0
      exact sums_law (some a) 0 cap (fun _ => (false, 0)) a1 w (fun j hj => absurd hj (by omega)) ⟨by omega, hm', (fun h => by cases h), fun h => absurd h (by omega)⟩
    · obtain ⟨b, off, spot⟩ := a
      obtain ⟨y0, hy0, _⟩ := hc 0 (by omega)
      have hspot : spot = none := by simpa [Addr.add] using World.cell?_spot hy0
      subst hspot
      have hch : ∀ i, ∃ p : Bool × Nat, i < len → w.cell? ⟨b, off + i, none⟩ = some (.float .f64 (W p.1 p.2)) ∧ p.2 < 9223372036854775808 := by
        intro i
        by_cases hi : i < len
        · obtain ⟨y, hy, hw⟩ := hc i hi
          have hylt : y < 18446744073709551616 := by simpa [Lit.wf] using hw
          obtain ⟨sg, rr, rfl, hrr⟩ := W_split y hylt
          exact ⟨(sg, rr), fun _ => ⟨by rw [← add_plain]; exact hy, hrr⟩⟩
        · exact ⟨(false, 0), fun h => absurd h hi⟩
      obtain ⟨f, hf⟩ : ∃ f : Nat → Bool × Nat, ∀ i, i < len → w.cell? ⟨b, off + i, none⟩ = some (.float .f64 (W (f i).1 (f i).2)) ∧ (f i).2 < 9223372036854775808 := ⟨fun i => Classical.choose (hch i), fun i => Classical.choose_spec (hch i)⟩
      have hb : b < w.heap.size := lt_of_cell' (hf 0 (by omega)).1
      exact sums_law _ len cap f a1 w (fun j hj => (hf j hj).2) ⟨hlc, hm', (fun h => by cases h), fun _ => ⟨b, off, rfl, hb, fun j hj => (hf j hj).1⟩⟩

/-! ### THE ROW's STEP -/
set_option maxRecDepth 100000 in
theorem lifted (os : Os) (started : os.Started) (H : Type) (enc : TypeId × Value → H) :
    ReturnsInHanded {} Try.checked os 4 .any (Rows.edgeSumsSpec.pre6 enc Try.prog Try.f4 Rows.edgeSumsRow.domain false) (Rows.edgeSumsSpec.post enc Try.prog Try.f4 false true false false) := by
  refine returnsInHanded_of_change (C := Try.checked) own started (by kernel_rfl) Try.func4
    (ChangeSpec.witness6 (enc := enc) (C := Try.checked) false ⟨#[], #[.slice none 0 0, .bool false], []⟩ 8 (by kernel_rfl) (by kernel_rfl) (by kernel_rfl) (by kernel_rfl)) ?_
  intro W base args ds gs before hval0 hW hcnd _
  have hval : ∀ (j : Nat) t v, Try.f4.params[j]? = some t → args[j]? = some v → Value.okWide Try.prog W .any base t v := hval0
  have hW' := hW
  obtain ⟨p, q, hA0, hV, rfl, hfz, hnd⟩ := hW
  have hA : DataW.TrodAll enc Try.prog W 0 (fun _ => true) true Try.f4.params.toList args.toList ds p := hA0
  rw [Try.params4] at hA hval
  obtain ⟨v0, vs0, d0, ds0, p0, q0, hargs, rfl, rfl, h0, r0⟩ := trodAll_cons hA
  obtain ⟨v1, vs1, d1, ds1, p1, q1, rfl, rfl, rfl, h1, r1⟩ := trodAll_cons r0
  obtain ⟨rfl, rfl, rfl⟩ := trodAll_nil r1
  obtain rfl : args = #[v0, v1] := by cases args; simp_all
  obtain ⟨rfl, rfl⟩ := trodVars_none hV
  obtain ⟨ad, len, cap, rfl⟩ := okWide_slice Try.underlying28 (hval 0 28 v0 rfl rfl)
  obtain ⟨a1, rfl, rfl, rfl⟩ := open_bool Try.underlying4 (hval 1 4 v1 rfl rfl) h1
  clear hA0 hval0
  simp only [List.append_nil] at hW'
  have hlt : ∀ x ∈ p0, x.block < W.heap.size := fun x hx => by simpa using hW'.lt x hx
  have hsl : (ad = none ∧ len = 0 ∧ cap = 0) ∨ ∃ a, ad = some a ∧ len ≤ cap ∧ cap ≤ maxLen ∧ ∀ i, i < len → ∃ y, W.cell? (a.add i) = some (.float .f64 y) ∧ (Lit.float .f64 y).wf = true := by
    obtain ⟨fuel, hf⟩ := h0
    rcases open_flts Try.underlying28 Try.underlying22 cells22 hf with hcs | ⟨a, len', cap', hcs, g1, g2, g3⟩
    · simp [Value.cells] at hcs
      exact Or.inl hcs
    · simp [Value.cells] at hcs
      obtain ⟨rfl, rfl, rfl⟩ := hcs
      exact Or.inr ⟨a, rfl, g1, g2, g3⟩
  refine (walk ad len cap a1 W hsl).mono fun e W' ⟨he, hg⟩ => ?_
  subst he
  have hargs' : DataW.TrodAll enc Try.prog W' 0 (fun b => decide (b < W.heap.size)) true [28, 4] [.slice ad len cap, .bool a1] [d0, .lit (.bool a1)] p0 := by
    have h3' := WideElems.Trod_stays (sp' := fun b => decide (b < W.heap.size)) laidOut (by kernel_rfl) (of_decide_eq_true (by kernel_rfl)) h0 (fun x hx => hg.same (hlt x hx)) (fun x hx => by simpa using hlt x hx)
    have := trodAll_cons_mk h3' (trodAll_cons_mk (shut_bool (enc := enc) (w := W') (base := 0) (spare := fun b => decide (b < W.heap.size)) (held := true) Try.underlying4 a1) trodAll_mk0)
    simpa using this
  exact ⟨_, rfl, _, _, _, [], p0, [], hW', (trodAll_cons_mk (shut_bool Try.underlying4 _) trodAll_mk0), hargs', rfl, hg.frame _, fun h => by cases h⟩

theorem over : Rows.edgeSumsRow.holds Try.pinned (OpenSpec.ofChange Rows.edgeSumsSpec) :=
  OpenClaim.holds_of_wide 4 Try.f4 rfl rfl rfl rfl rfl rfl rfl ⟨rfl, rfl, rfl, rfl, rfl⟩ rfl rfl rfl rfl rfl (by kernel_rfl) Try.func4 (by kernel_rfl)
    (of_decide_eq_true (by kernel_rfl)) (by unfold Func.isWrapper; first | (rw [if_pos (by decide +kernel)]; kernel_rfl) | (rw [if_neg (by decide +kernel)]; exact ⟨rfl, rfl⟩))
    (fun os started H enc _ => lifted os started H enc)

theorem edgeSums_proved : Rows.EdgeSumsSaid :=
  over
#print axioms edgeSums_proved
end Go.Proofs.Yteompnpfoplppaa
