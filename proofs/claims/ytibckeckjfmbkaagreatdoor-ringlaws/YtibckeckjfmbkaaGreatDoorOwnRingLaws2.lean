/-
  Proved: rosettelaw11.RingLaws (round products of small rows: in either order, of sums, of rows turned round, of 1 and noughts, of three rows in either grouping; never refused)
-/
import Derived.Test.YtibckeckjfmbkaaGreatDoorM44
import Derived.Test.YtibckeckjfmbkaaGreatDoorRows
import Derived.Test.YtibckeckjfmbkaaGreatDoorCards
import Derived.Test.YtibckeckjfmbkaaGreatDoorTie
import Derived.SevenTiedAt
namespace Go.Proofs.YtibckeckjfmbkaaGreatDoor
open Go.ChangeShapes Go.WideShapes Go.ChangeAt Go.RowKit
set_option linter.unusedVariables false

set_option maxRecDepth 100000 in
theorem ringLaws_lifted (os : Os) (started : os.Started) (H : Type) (enc : TypeId × Value → H) :
    ReturnsInHanded {} Tryz.checked os 5 .any (fun w args => (Rows.ringLawsSpec.pre enc Tryz.prog Tryz.f5 [] false w args ∧ laidMetH Tryz.prog [("math/bits.deBruijn32tab", Rows.laid_math_bits_deBruijn32tab), ("math/bits.deBruijn64tab", Rows.laid_math_bits_deBruijn64tab), ("rosette/shuffle.fours", Rows.laid_rosette_shuffle_fours)] w) ∧ sizedMet enc Tryz.prog Tryz.f5 (OpenSpec.ofChange Rows.ringLawsSpec) false w args)
      (Rows.ringLawsSpec.post enc Tryz.prog Tryz.f5 false true false false) := by
  refine returnsInHanded_of_change_and (C := Tryz.checked) (X := fun w _ => laidMetH Tryz.prog [("math/bits.deBruijn32tab", Rows.laid_math_bits_deBruijn32tab), ("math/bits.deBruijn64tab", Rows.laid_math_bits_deBruijn64tab), ("rosette/shuffle.fours", Rows.laid_rosette_shuffle_fours)] w) (fun _ _ _ hh h => h.of_heap hh) own started (by kernel_rfl) Tryz.func5
    (ChangeSpec.witness_shaped (enc := enc) (C := Tryz.checked) (os := os) (X := fun w _ => laidMetH Tryz.prog [("math/bits.deBruijn32tab", Rows.laid_math_bits_deBruijn32tab), ("math/bits.deBruijn64tab", Rows.laid_math_bits_deBruijn64tab), ("rosette/shuffle.fours", Rows.laid_rosette_shuffle_fours)] w) false (World.doorLaid Tryz.prog 400 os) #[.slice none 0 0, .slice none 0 0, .slice none 0 0, .int .i64 0] 8 rfl (World.shaped_of_RefB (by kernel_rfl) (by kernel_rfl)) (by kernel_rfl) (by kernel_rfl) (by kernel_rfl) (door_met os _)) ?_
  intro W base args ds gs before hval0 hW _ hZ hL _
  have hval : ∀ (j : Nat) t v, Tryz.f5.params[j]? = some t → args[j]? = some v → Value.okWide Tryz.prog W .any base t v := hval0
  have hW' := hW
  obtain ⟨p, q, hA0, hV, rfl, hfz, hnd⟩ := hW
  have hA : DataW.TrodAll enc Tryz.prog W 0 (fun _ => true) true Tryz.f5.params.toList args.toList ds p := hA0
  rw [Tryz.params5] at hA hval
  obtain ⟨v0, vs0, d0, ds0, p0, q0, hargs, rfl, rfl, h0, r0⟩ := trodAll_cons hA
  obtain ⟨v1, vs1, d1, ds1, p1, q1, rfl, rfl, rfl, h1, r1⟩ := trodAll_cons r0
  obtain ⟨v2, vs2, d2, ds2, p2, q2, rfl, rfl, rfl, h2, r2⟩ := trodAll_cons r1
  obtain ⟨v3, vs3, d3, ds3, p3, q3, rfl, rfl, rfl, h3, r3⟩ := trodAll_cons r2
  obtain ⟨rfl, rfl, rfl⟩ := trodAll_nil r3
  obtain rfl : args = #[v0, v1, v2, v3] := by cases args; simp_all
  obtain ⟨rfl, rfl⟩ := trodVars_none hV
  obtain ⟨ad0, len0, cap0, rfl⟩ := okWide_slice Tryz.underlying22 (hval 0 22 v0 rfl rfl)
  obtain ⟨f0, hr0⟩ := argI h0
  have lz0 : len0 ≤ 35184372088832 := lenI h0 hZ 0 (by kernel_rfl) rfl
  obtain ⟨ad1, len1, cap1, rfl⟩ := okWide_slice Tryz.underlying22 (hval 1 22 v1 rfl rfl)
  obtain ⟨f1, hr1⟩ := argI h1
  have lz1 : len1 ≤ 35184372088832 := lenI h1 hZ 1 (by kernel_rfl) rfl
  obtain ⟨ad2, len2, cap2, rfl⟩ := okWide_slice Tryz.underlying22 (hval 2 22 v2 rfl rfl)
  obtain ⟨f2, hr2⟩ := argI h2
  have lz2 : len2 ≤ 35184372088832 := lenI h2 hZ 2 (by kernel_rfl) rfl
  obtain ⟨a3, rfl, rfl, rfl, w3⟩ := open_int Tryz.underlying3 (hval 3 3 v3 rfl rfl) h3
  obtain ⟨hT, hF⟩ := tabs_of_laid hL
  clear hA0 hval0
  simp only [List.append_nil] at hW'
  have hlt : ∀ x ∈ p0 ++ p1 ++ p2, x.block < W.heap.size := fun x hx => by simpa using hW'.lt x (by simpa using hx)
  refine (Fl.lawsW a3 ad0 ad1 ad2 len0 len1 len2 cap0 cap1 cap2 f0 f1 f2 W hT hF hr0 hr1 hr2 lz0 lz1 lz2).mono fun e W' ⟨he, hg⟩ => ?_
  subst he
  have stay : ∀ (v : Value) (d : DataW H) (pp : List MemPlace), DataW.Trod enc Tryz.prog W 0 (fun _ => true) true 22 v d pp → (∀ x ∈ pp, x.block < W.heap.size) → DataW.Trod enc Tryz.prog W' 0 (fun b => decide (b < W.heap.size)) true 22 v d pp := fun v d pp hh hl =>
    WideElems.Trod_stays (sp' := fun b => decide (b < W.heap.size)) laidOut (by kernel_rfl) (of_decide_eq_true (by kernel_rfl)) hh (fun x hx => hg.same (hl x hx)) (fun x hx => by simpa using hl x hx)
  have hargs' : DataW.TrodAll enc Tryz.prog W' 0 (fun b => decide (b < W.heap.size)) true [22, 22, 22, 3] [.slice ad0 len0 cap0, .slice ad1 len1 cap1, .slice ad2 len2 cap2, .int .i64 a3] [d0, d1, d2, .lit (.int .i64 a3)] (p0 ++ p1 ++ p2) := by
    have := (trodAll_cons_mk (stay _ _ _ h0 (fun x hx => hlt x (by simp [hx]))) (trodAll_cons_mk (stay _ _ _ h1 (fun x hx => hlt x (by simp [hx]))) (trodAll_cons_mk (stay _ _ _ h2 (fun x hx => hlt x (by simp [hx]))) (trodAll_cons_mk (shut_int (enc := enc) (w := W') (base := 0) (spare := fun b => decide (b < W.heap.size)) (held := true) Tryz.underlying3 w3) trodAll_mk0))))
    simpa using this
  exact ⟨_, rfl, _, _, _, [], p0 ++ p1 ++ p2, [], hW', (trodAll_cons_mk (shut_bool Tryz.underlying4 _) trodAll_mk0), hargs', rfl, hg.frame _, fun h => by cases h⟩

theorem ringLaws_over : Rows.RingLawsSaid :=
  OpenClaim.holds_of_wide 5 Tryz.f5 rfl rfl rfl rfl rfl rfl rfl ⟨rfl, rfl, rfl, rfl, rfl⟩ rfl rfl rfl rfl rfl (by kernel_rfl) Tryz.func5 (by kernel_rfl)
    (of_decide_eq_true (by kernel_rfl)) (by unfold Func.isWrapper; first | (rw [if_pos (by decide +kernel)]; kernel_rfl) | (rw [if_neg (by decide +kernel)]; exact ⟨rfl, rfl⟩))
    (fun os started H enc _ => ringLaws_lifted os started H enc)

theorem ringLaws_proved : Rows.RingLawsCardSaid :=
  Claim7.holds_tied_plain_at .later [] [.data, .data, .data] true (true, "4562affd9626f65fe9cbc2be504e334e095e5e12e02983ae25866e9683c0a132") false
    ringLaws_over (fun _ h => by cases h) (by kernel_rfl) (fun _ h => by cases h) ringLaws_row_tie rfl ⟨rfl, rfl⟩ (by kernel_rfl) rfl
    (fun f fn hf hfn => by
      obtain rfl : f = 5 := Option.some.inj ((show Tryz.prog.funcNamed "rosette/rosettelaw11.RingLaws" = some 5 by kernel_rfl).symm.trans hf) |>.symm
      obtain rfl : fn = Tryz.f5 := (Option.some.inj (Tryz.func5.symm.trans hfn)).symm
      exact ⟨by kernel_rfl, fun j t ht => by
        rw [Tryz.params5] at ht
        have hm : t ∈ [22, 22, 22, 3] := by simpa using Array.mem_of_getElem? ht
        have hall : ([22, 22, 22, 3].all fun u => !Tryz.prog.wantsStandIn u) = true := by kernel_rfl
        exact (show Tryz.prog.wantsStandIn t = false by simpa using List.all_eq_true.1 hall t (by simpa using hm))⟩)
    (by kernel_rfl)
#print axioms ringLaws_proved
end Go.Proofs.YtibckeckjfmbkaaGreatDoor
