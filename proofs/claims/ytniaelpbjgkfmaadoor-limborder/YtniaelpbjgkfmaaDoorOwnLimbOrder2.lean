/-
  Proved: rosettelaw13.LimbOrder (Cmp is an order, that of differences; it turns about; it is kept by sums; it is 0 just where the numbers are the same; small numbers are as int64 has them, there and back; each number of at most 60 limbs out of what came in) returns true for every three numbers told by limbs (any sign, any row of uint64, nil, empty, of any length) and every two int64, in any memory and on any tape of answers; the one condition: the table of math/bits is laid as the program's text lays it (tied by the card).
-/
import Derived.Test.YtniaelpbjgkfmaaDoorL09
import Derived.Test.YtniaelpbjgkfmaaDoorL08
import Derived.Test.YtniaelpbjgkfmaaDoorRows
import Derived.Test.YtniaelpbjgkfmaaDoorCards
import Derived.Test.YtniaelpbjgkfmaaDoorTie
import Derived.SevenTiedAt
namespace Go.Proofs.YtniaelpbjgkfmaaDoor
open Go.ChangeShapes Go.WideShapes Go.ChangeAt Go.RowKit
set_option linter.unusedVariables false

set_option maxRecDepth 100000 in
theorem limbOrder_lifted (os : Os) (started : os.Started) (H : Type) (enc : TypeId × Value → H) :
    ReturnsInHanded {} Tryd.checked os 7 .any (fun w args => (Rows.limbOrderSpec.pre enc Tryd.prog Tryd.f7 [] false w args ∧ laidMetH Tryd.prog [("math/bits.deBruijn64tab", Rows.laid_math_bits_deBruijn64tab)] w) ∧ sizedMet enc Tryd.prog Tryd.f7 (OpenSpec.ofChange Rows.limbOrderSpec) false w args)
      (Rows.limbOrderSpec.post enc Tryd.prog Tryd.f7 false true false false) := by
  refine returnsInHanded_of_change_and (C := Tryd.checked) (X := fun w _ => laidMetH Tryd.prog [("math/bits.deBruijn64tab", Rows.laid_math_bits_deBruijn64tab)] w) (fun _ _ _ hh h => h.of_heap hh) own started (by kernel_rfl) Tryd.func7
    (ChangeSpec.witness_shaped (enc := enc) (C := Tryd.checked) (os := os) (X := fun w _ => laidMetH Tryd.prog [("math/bits.deBruijn64tab", Rows.laid_math_bits_deBruijn64tab)] w) false (World.doorLaid Tryd.prog 400 os) #[.agg #[.bool false, .slice none 0 0], .agg #[.bool false, .slice none 0 0], .agg #[.bool false, .slice none 0 0], .int .i64 0, .int .i64 0] 8 rfl (World.shaped_of_RefB (by kernel_rfl) (by kernel_rfl)) (by kernel_rfl) (by kernel_rfl) (by kernel_rfl) (door_met os _)) ?_
  intro W base args ds gs before hval0 hW _ hZ hL _
  have hval : ∀ (j : Nat) t v, Tryd.f7.params[j]? = some t → args[j]? = some v → Value.okWide Tryd.prog W .any base t v := hval0
  have hW' := hW
  obtain ⟨p, q, hA0, hV, rfl, hfz, hnd⟩ := hW
  have hA : DataW.TrodAll enc Tryd.prog W 0 (fun _ => true) true Tryd.f7.params.toList args.toList ds p := hA0
  rw [Tryd.params7] at hA hval
  obtain ⟨v0, vs0, d0, ds0, p0, q0, hargs, rfl, rfl, h0, r0⟩ := trodAll_cons hA
  obtain ⟨v1, vs1, d1, ds1, p1, q1, rfl, rfl, rfl, h1, r1⟩ := trodAll_cons r0
  obtain ⟨v2, vs2, d2, ds2, p2, q2, rfl, rfl, rfl, h2, r2⟩ := trodAll_cons r1
  obtain ⟨v3, vs3, d3, ds3, p3, q3, rfl, rfl, rfl, h3, r3⟩ := trodAll_cons r2
  obtain ⟨v4, vs4, d4, ds4, p4, q4, rfl, rfl, rfl, h4, r4⟩ := trodAll_cons r3
  obtain ⟨rfl, rfl, rfl⟩ := trodAll_nil r4
  obtain rfl : args = #[v0, v1, v2, v3, v4] := by cases args; simp_all
  obtain ⟨rfl, rfl⟩ := trodVars_none hV
  obtain ⟨c0, rfl, _⟩ := okWide_struct Tryd.underlying48 (hval 0 48 v0 rfl rfl)
  obtain ⟨f0, t0⟩ := id h0
  obtain ⟨sg0, ad0, n0, cp0, xs0, E0, rr0, bb0⟩ := open_whole (v := .agg c0) ⟨c0, rfl, rfl⟩ t0
  obtain ⟨c1, rfl, _⟩ := okWide_struct Tryd.underlying48 (hval 1 48 v1 rfl rfl)
  obtain ⟨f1, t1⟩ := id h1
  obtain ⟨sg1, ad1, n1, cp1, xs1, E1, rr1, bb1⟩ := open_whole (v := .agg c1) ⟨c1, rfl, rfl⟩ t1
  obtain ⟨c2, rfl, _⟩ := okWide_struct Tryd.underlying48 (hval 2 48 v2 rfl rfl)
  obtain ⟨f2, t2⟩ := id h2
  obtain ⟨sg2, ad2, n2, cp2, xs2, E2, rr2, bb2⟩ := open_whole (v := .agg c2) ⟨c2, rfl, rfl⟩ t2
  obtain ⟨a3, rfl, rfl, rfl, w3⟩ := open_int Tryd.underlying2 (hval 3 2 v3 rfl rfl) h3
  have b3 : -9223372036854775808 ≤ a3 ∧ a3 ≤ 9223372036854775807 := by
    have g1 : IntKind.i64.min = -9223372036854775808 := rfl
    have g2 : IntKind.i64.max = 9223372036854775807 := rfl
    have := w3
    simp [Lit.wf] at this
    omega
  obtain ⟨a4, rfl, rfl, rfl, w4⟩ := open_int Tryd.underlying2 (hval 4 2 v4 rfl rfl) h4
  have b4 : -9223372036854775808 ≤ a4 ∧ a4 ≤ 9223372036854775807 := by
    have g1 : IntKind.i64.min = -9223372036854775808 := rfl
    have g2 : IntKind.i64.max = 9223372036854775807 := rfl
    have := w4
    simp [Lit.wf] at this
    omega
  have hT := tab_of_laid hL
  clear hA0 hval0
  simp only [List.append_nil] at hW'
  have hlt : ∀ x ∈ p0 ++ p1 ++ p2, x.block < W.heap.size := fun x hx => by simpa using hW'.lt x (by simpa using hx)
  rw [E0, E1, E2]
  refine (orderW sg0 sg1 sg2 ad0 ad1 ad2 n0 n1 n2 cp0 cp1 cp2 xs0 xs1 xs2 a3 a4 W rr0 rr1 rr2 bb0 bb1 bb2 b3.1 b3.2 b4.1 b4.2 hT).mono fun e W' ⟨he, hg⟩ => ?_
  subst he
  rw [← E0, ← E1, ← E2]
  have stayW : ∀ (v : Value) (d : DataW H) (pp : List MemPlace), DataW.Trod enc Tryd.prog W 0 (fun _ => true) true 48 v d pp → (∀ x ∈ pp, x.block < W.heap.size) → DataW.Trod enc Tryd.prog W' 0 (fun b => decide (b < W.heap.size)) true 48 v d pp := fun v d pp hh hl =>
    WideElems.Trod_stays (sp' := fun b => decide (b < W.heap.size)) laidOut (by kernel_rfl) (of_decide_eq_true (by kernel_rfl)) hh (fun x hx => hg.same (hl x hx)) (fun x hx => by simpa using hl x hx)
  have hargs' : DataW.TrodAll enc Tryd.prog W' 0 (fun b => decide (b < W.heap.size)) true [48, 48, 48, 2, 2] [.agg c0, .agg c1, .agg c2, .int .i64 a3, .int .i64 a4] [d0, d1, d2, .lit (.int .i64 a3), .lit (.int .i64 a4)] (p0 ++ p1 ++ p2) := by
    have := (trodAll_cons_mk (stayW _ _ _ h0 (fun x hx => hlt x (by simp [hx]))) (trodAll_cons_mk (stayW _ _ _ h1 (fun x hx => hlt x (by simp [hx]))) (trodAll_cons_mk (stayW _ _ _ h2 (fun x hx => hlt x (by simp [hx]))) (trodAll_cons_mk (shut_int (enc := enc) (w := W') (base := 0) (spare := fun b => decide (b < W.heap.size)) (held := true) Tryd.underlying2 w3) (trodAll_cons_mk (shut_int (enc := enc) (w := W') (base := 0) (spare := fun b => decide (b < W.heap.size)) (held := true) Tryd.underlying2 w4) trodAll_mk0)))))
    simpa using this
  exact ⟨_, rfl, _, _, _, [], p0 ++ p1 ++ p2, [], hW', (trodAll_cons_mk (shut_bool Tryd.underlying4 _) trodAll_mk0), hargs', rfl, hg.frame _, fun h => by cases h⟩

theorem limbOrder_over : Rows.LimbOrderSaid :=
  OpenClaim.holds_of_wide 7 Tryd.f7 rfl rfl rfl rfl rfl rfl rfl ⟨rfl, rfl, rfl, rfl, rfl⟩ rfl rfl rfl rfl rfl (by kernel_rfl) Tryd.func7 (by kernel_rfl)
    (of_decide_eq_true (by kernel_rfl)) (by unfold Func.isWrapper; first | (rw [if_pos (by decide +kernel)]; kernel_rfl) | (rw [if_neg (by decide +kernel)]; exact ⟨rfl, rfl⟩))
    (fun os started H enc _ => limbOrder_lifted os started H enc)

theorem limbOrder_proved : Rows.LimbOrderCardSaid :=
  Claim7.holds_tied_plain_at .later [] [.data] true (true, "a4f11d30b289244284b5322362c58b08618076cad738d87dcd22f3f32b5e1952") false
    limbOrder_over (fun _ h => by cases h) (by kernel_rfl) (fun _ h => by cases h) limbOrder_row_tie rfl ⟨rfl, rfl⟩ (by kernel_rfl) rfl
    (fun f fn hf hfn => by
      obtain rfl : f = 7 := Option.some.inj ((show Tryd.prog.funcNamed "rosette/rosettelaw13.LimbOrder" = some 7 by kernel_rfl).symm.trans hf) |>.symm
      obtain rfl : fn = Tryd.f7 := (Option.some.inj (Tryd.func7.symm.trans hfn)).symm
      exact ⟨by kernel_rfl, fun j t ht => by
        rw [Tryd.params7] at ht
        have hm : t ∈ [48, 48, 48, 2, 2] := by simpa using Array.mem_of_getElem? ht
        have hall : ([48, 48, 48, 2, 2].all fun u => !Tryd.prog.wantsStandIn u) = true := by kernel_rfl
        exact (show Tryd.prog.wantsStandIn t = false by simpa using List.all_eq_true.1 hall t (by simpa using hm))⟩)
    (by kernel_rfl)
#print axioms limbOrder_proved
end Go.Proofs.YtniaelpbjgkfmaaDoor
