/-
  Proved: rosettelaw02.EdgeNear (steps there and back, the nearest whole number, at most a half off and found again) returns true for every float64 and either side, in any memory and on any tape of answers; there is no condition.
-/
import Derived.Test.YteeppbkkgleagabRows
import Derived.Test.YteeppbkkgleagabW7
import Derived.WalkKit
import Derived.ProofKit
import Derived.OpenShut
import Derived.Laws.Cover2
namespace Go.Proofs.Yteeppbkkgleagab
open Go.ChangeShapes Go.WideShapes Go.ChangeAt Go.RowKit
open Ieee
set_option linter.unusedVariables false

theorem own : ownKnob Try.prog.godebug = none := by kernel_rfl

def E21 : Nat := 1021
theorem M_half : 2 * M 4602678819172646912 = U := by
  have h := M_at E21 4503599627370496 (Or.inl ⟨by omega, by omega⟩)
  have e : E21 * 4503599627370496 + 4503599627370496 = 4602678819172646912 := rfl
  rw [e] at h
  rw [h]
  unfold U
  have e2 : E74 = 53 + E21 := rfl
  rw [e2, Nat.pow_add, ← Nat.mul_assoc]
theorem val_sgnI (t : Bool) (c r : Nat) (h : M r = c * U) : val t r = sgnI t c * (U : Int) := by
  unfold val sgnI
  rw [h]
  cases t
  · simp
  · simp [Int.neg_mul]

theorem sgnI_abs (s : Bool) (c : Nat) : (sgnI s c).natAbs = c := by
  unfold sgnI; cases s <;> simp
theorem ofN_le (c : Nat) (h : c ≤ 9007199254740992) : ofN c ≤ 4845873199050653696 := by
  obtain ⟨h1, h2, _⟩ := ofN_spec c h
  refine Nat.le_of_not_lt fun hlt => ?_
  have := M_lt hlt
  rw [M_K, h1] at this
  have := Nat.mul_le_mul_right U h
  omega

theorem walk_near (s : Bool) (r nx x3 : Nat) (up : Bool) (w : World) (hr : r ≤ 4845873199050653696)
    (hN : ∀ w, Calls Try.prog 5 #[.float .f64 (W s r), .bool up] w fun e w' => e = .returned (.float .f64 nx) ∧ w' = w)
    (hB : ∀ w, Calls Try.prog 5 #[.float .f64 nx, .bool (!up)] w fun e w' => e = .returned (.float .f64 x3) ∧ w' = w)
    (hL : likeB x3 (W s r) = true) (e1 : (FloatKind.f64.format.order (W s r) (W s r) != some .eq) = false)
    (e2 : up = true → (FloatKind.f64.format.order nx (W s r) == some .lt) = false) (e3 : up = false → (FloatKind.f64.format.order nx (W s r) == some .gt) = false)
    (e4 : (FloatKind.f64.format.order nx (W s r) == some .eq) = false) (e5 : (FloatKind.f64.format.order nx (W s r) != some .eq) = true) :
    Calls Try.prog 3 #[.float .f64 (W s r), .bool up] w fun e w' => e = .returned (.bool true) ∧ w' = w := by
  obtain ⟨d, hd, hdist, hhalf, hzero, hwhole⟩ := near_dist r
  have hc := evN_K hr
  obtain ⟨hc1, hc2, _⟩ := ofN_spec (evN r) hc
  have hR := fun w => near6 s r d w hr hd hdist
  have hq : M (ofN (evN r)) / U = evN r := by rw [hc1, Nat.mul_div_cancel _ U_pos]
  have hn0 : M (ofN (evN r)) % U = 0 := by rw [hc1, Nat.mul_mod_left]
  have habs := sgnI_abs s (evN r)
  have hf : floatOfInt .f64 (sgnI s (evN r)) = W (decide (sgnI s (evN r) < 0)) (ofN (evN r)) := by
    have := floatOfInt_W (sgnI s (evN r)) (by omega)
    rw [habs] at this
    exact this
  have hsg : sgnI (decide (sgnI s (evN r) < 0)) (evN r) = sgnI s (evN r) := by
    unfold sgnI
    cases s
    · simp only [Bool.false_eq_true, if_false]
      rw [decide_eq_false (by omega)]
      simp
    · simp only [if_true]
      by_cases h0 : evN r = 0
      · rw [h0]; rfl
      · rw [decide_eq_true (by omega)]
        rfl
  have hV := fun w => whole9_yes (decide (sgnI s (evN r) < 0)) (ofN (evN r)) w (ofN_le _ hc) hn0
  rw [hq, hsg] at hV
  -- values
  have hval : val (decide (sgnI s (evN r) < 0)) (ofN (evN r)) = sgnI s (evN r) * (U : Int) := by
    rw [val_sgnI _ _ _ hc1, hsg]
  generalize ht : decide (sgnI s (evN r) < 0) = t at *
  have hdv : sgnI s (evN r) * (U : Int) + M d = val s r ∨ sgnI s (evN r) * (U : Int) - M d = val s r := by
    unfold sgnI val
    cases s
    · simp only [Bool.false_eq_true, if_false]
      have : ((evN r * U : Nat) : Int) = (evN r : Int) * (U : Int) := by simp
      rw [← this]
      omega
    · simp only [if_true]
      have : ((evN r * U : Nat) : Int) = (evN r : Int) * (U : Int) := by simp
      rw [Int.neg_mul, ← this]
      omega
  have hvd : val false d = (M d : Int) := rfl
  obtain ⟨_, c1, _, _, _, hadd⟩ := add_faithful t false (ofN (evN r)) d hc2 hd
  have hs1 : double.add (W t (ofN (evN r))) d = some _ := hadd
  have hor : ∀ s1, double.add (W t (ofN (evN r))) d = some s1 → ((FloatKind.f64.format.order s1 (W s r) == some .eq) = true ∨ ((FloatKind.f64.format.order s1 (W s r) == some .eq) = false ∧ ∃ s2, double.sub (W t (ofN (evN r))) d = some s2 ∧ (FloatKind.f64.format.order s2 (W s r) == some .eq) = true)) := by
    intro s1 h1
    cases hb : (FloatKind.f64.format.order s1 (W s r) == some .eq)
    · right
      refine ⟨rfl, ?_⟩
      have hneg : val t (ofN (evN r)) + val (!false) d = val s r := by
        rcases hdv with h | h
        · exfalso
          have h2 := add_exact t false (ofN (evN r)) d r hc2 hd (by omega) (by
            rw [hval, hvd, h]; unfold val; cases s <;> simp)
          rw [hval, hvd, h] at h2
          have h3 : double.add (W t (ofN (evN r))) (W false d) = some s1 := h1
          rw [h3] at h2
          injection h2 with h2
          rw [h2, B_eq _ _ _ _ (by omega) (by omega)] at hb
          have hb' := of_decide_eq_false hb
          apply hb'
          by_cases hz : val s r = 0
          · have hr0 : r = 0 := by
              refine Nat.eq_zero_of_not_pos fun hp => ?_
              have := M_pos hp
              unfold val at hz
              cases s <;> simp at hz <;> omega
            subst hr0
            rw [val_zero, val_zero]
          · rw [if_neg hz]
            unfold val
            cases s
            · rw [decide_eq_false (by simp)]
            · have : M r ≠ 0 := by
                intro h0; apply hz; unfold val; simp [h0]
              rw [decide_eq_true (by simp; omega)]
        · rw [val_not, hval, hvd]; omega
      have h2 := add_exact t (!false) (ofN (evN r)) d r hc2 hd (by omega) (by
        rw [hneg]; unfold val; cases s <;> simp)
      have h3 : double.sub (W t (ofN (evN r))) d = double.add (W t (ofN (evN r))) (W (!false) d) := sub_W t false _ d hd
      rw [hneg] at h2
      refine ⟨_, h3.trans h2, ?_⟩
      rw [B_eq _ _ _ _ (by omega) (by omega)]
      refine decide_eq_true ?_
      by_cases hz : val s r = 0
      · have hr0 : r = 0 := by
          refine Nat.eq_zero_of_not_pos fun hp => ?_
          have := M_pos hp
          unfold val at hz
          cases s <;> simp at hz <;> omega
        subst hr0
        rw [val_zero, val_zero]
      · rw [if_neg hz]
        unfold val
        cases s
        · rw [decide_eq_false (by simp)]
        · have : M r ≠ 0 := by
            intro h0; apply hz; unfold val; simp [h0]
          rw [decide_eq_true (by simp; omega)]
    · exact Or.inl rfl
  have hor := hor _ hs1
  -- the distance against 0 and a half
  have k1 : (FloatKind.f64.format.order d 0 == some .gt) = decide (0 < M d) := by
    have h := B_gt false false d 0 (by omega) (by omega)
    rw [show W false d = d from rfl, show W false 0 = 0 from rfl] at h
    rw [h, val_zero, hvd]
    exact decide_eq_decide.2 (by omega)
  have k2 : (FloatKind.f64.format.order d 0 == some .eq) = decide (M d = 0) := by
    have h := B_eq false false d 0 (by omega) (by omega)
    rw [show W false d = d from rfl, show W false 0 = 0 from rfl] at h
    rw [h, val_zero, hvd]
    exact decide_eq_decide.2 (by omega)
  have hh := M_half
  have k3 : (FloatKind.f64.format.order d 4602678819172646912 == some .lt) = decide (M d < M 4602678819172646912) := by
    have h := B_lt false false d 4602678819172646912 (by omega) (by omega)
    rw [show W false d = d from rfl, show W false 4602678819172646912 = 4602678819172646912 from rfl] at h
    rw [h]
    unfold val
    simp
  have k4 : (FloatKind.f64.format.order d 4602678819172646912 == some .eq) = decide (M d = M 4602678819172646912) := by
    have h := B_eq false false d 4602678819172646912 (by omega) (by omega)
    rw [show W false d = d from rfl, show W false 4602678819172646912 = 4602678819172646912 from rfl] at h
    rw [h]
    unfold val
    simp only [Bool.false_eq_true, if_false]
    exact decide_eq_decide.2 (by omega)
  by_cases hi : M r % U = 0
  · have hX := fun w => whole9_yes s r w hr hi
    have hd0 := hzero.2 hi
    rw [decide_eq_false (by omega)] at k1
    rw [decide_eq_true hd0] at k2
    have hmn : sgnI s (M r / U) = sgnI s (evN r) := by rw [hwhole hi]
    by_cases hl : M d < M 4602678819172646912
    · rw [decide_eq_true hl] at k3
      exact law_near11 _ _ _ _ _ _ _ _ up w hN hB hR hV hX hL e1 e2 e3 e4 e5 hf k1 k3 k2 hmn hs1 hor
    · rw [decide_eq_false hl] at k3
      rw [decide_eq_true (by omega)] at k4
      exact law_near10 _ _ _ _ _ _ _ _ up w hN hB hR hV hX hL e1 e2 e3 e4 e5 hf k1 k3 k4 k2 hmn hs1 hor
  · have hX := fun w => whole9_no s r w hr hi
    have hd0 : M d ≠ 0 := fun h => hi (hzero.1 h)
    rw [decide_eq_true (by omega)] at k1
    rw [decide_eq_false hd0] at k2
    by_cases hl : M d < M 4602678819172646912
    · rw [decide_eq_true hl] at k3
      exact law_near01 _ _ _ _ _ _ _ _ up w hN hB hR hV hX hL e1 e2 e3 e4 e5 hf k1 k3 k2 hs1 hor
    · rw [decide_eq_false hl] at k3
      rw [decide_eq_true (by omega)] at k4
      exact law_near00 _ _ _ _ _ _ _ _ up w hN hB hR hV hX hL e1 e2 e3 e4 e5 hf k1 k3 k4 k2 hs1 hor

theorem walk (a0 : Nat) (a1 : Bool) (w0 : (Lit.float .f64 a0).wf = true) (w : World) :
    Calls Try.prog 3 #[.float .f64 a0, .bool a1] w fun e w' => e = .returned (.bool true) ∧ Grown w w' := by
  have hlt : a0 < 18446744073709551616 := by simpa [Lit.wf] using w0
  obtain ⟨s, r, rfl, hr⟩ := W_split a0 hlt
  have same : ∀ {e : Ending} {w' : World}, (e = .returned (.bool true) ∧ w' = w) → e = .returned (.bool true) ∧ Grown w w' := by
    rintro e w' ⟨rfl, rfl⟩
    exact ⟨rfl, Grown.refl _⟩
  have hn := nanB_W s r hr
  have hf := finB_W s r hr
  by_cases h1 : 9218868437227405312 < r
  · rw [decide_eq_true h1] at hn
    rw [decide_eq_false (by omega)] at hf
    exact (law_nan _ a1 w hn hf).mono fun e w' h => same h
  obtain ⟨s2, r2, hr2, hnx, hst | ⟨hmv, s3, r3, hr3, hbk, hv3⟩⟩ := next_facts s r a1 (by omega)
  · obtain ⟨hI, rfl, rfl, hs⟩ := hst
    subst hI
    have : a1 = !s2 := by rw [hs, Bool.not_not]
    subst this
    refine (law_stay s2 w).mono ?_
    rintro e w' ⟨rfl, rfl⟩
    exact ⟨rfl, (Grown.refl _).drew⟩
  · have hN := fun w => next5 s r a1 w hr
    have hB := fun w => next5 s2 r2 (!a1) w (by omega)
    rw [hnx] at hN
    rw [hbk] at hB
    have hL : likeB (W s3 r3) (W s r) = true := by
      unfold likeB
      rw [B_eq s3 s r3 r hr3 (by omega), decide_eq_true hv3, Bool.true_or]
    have e1 := B_ne s s r r (by omega) (by omega)
    rw [decide_eq_false (by simp)] at e1
    have hne : val s2 r2 ≠ val s r := by
      intro h
      rw [h] at hmv
      cases a1 <;> simp at hmv
    have e2 : a1 = true → (FloatKind.f64.format.order (W s2 r2) (W s r) == some .lt) = false := by
      intro h
      subst h
      rw [B_lt s2 s r2 r hr2 (by omega)]
      simp only [if_true] at hmv
      exact decide_eq_false (by omega)
    have e3 : a1 = false → (FloatKind.f64.format.order (W s2 r2) (W s r) == some .gt) = false := by
      intro h
      subst h
      rw [B_gt s2 s r2 r hr2 (by omega)]
      simp only [Bool.false_eq_true, if_false] at hmv
      exact decide_eq_false (by omega)
    have e4 := B_eq s2 s r2 r hr2 (by omega)
    rw [decide_eq_false hne] at e4
    have e5 := B_ne s2 s r2 r hr2 (by omega)
    rw [decide_eq_true hne] at e5
    by_cases hK : r ≤ 4845873199050653696
    · exact (walk_near s r _ _ a1 w hK hN hB hL e1 e2 e3 e4 e5).mono fun e w' h => same h
    · have hM := M_lt (show 4845873199050653696 < r by omega)
      have e6 := B_gt s false r 4845873199050653696 (by omega) (by omega)
      have e7 := B_lt s true r 4845873199050653696 (by omega) (by omega)
      rw [show W false 4845873199050653696 = 4845873199050653696 from rfl] at e6
      rw [show W true 4845873199050653696 = 14069245235905429504 from rfl] at e7
      have e8 : decide (val false 4845873199050653696 < val s r) = false → (FloatKind.f64.format.order (W s r) 14069245235905429504 == some .lt) = true := by
        intro h
        have h := of_decide_eq_false h
        rw [e7]
        refine decide_eq_true ?_
        unfold val at *
        cases s <;> simp only [Bool.false_eq_true, if_false, if_true] at * <;> omega
      by_cases hI : r = 9218868437227405312
      · have hR : ∀ w, Calls Try.prog 6 #[.float .f64 (W s r)] w fun e w' => e = .returned (.tuple #[.int .i64 0, .float .f64 0, .int .i64 5]) ∧ w' = w := by
          rw [decide_eq_false (by omega)] at hf
          exact fun w => near6_not _ w hf
        exact (law_far _ _ _ 5 a1 _ w (by omega) hN hB hR hL e1 e2 e3 e4 e5 e6 e8).mono fun e w' h => same h
      · have hR : ∀ w, Calls Try.prog 6 #[.float .f64 (W s r)] w fun e w' => e = .returned (.tuple #[.int .i64 0, .float .f64 0, .int .i64 6]) ∧ w' = w := by
          rw [decide_eq_true (by omega)] at hf
          have hb := bigB_W s r hr
          rw [decide_eq_true (by omega), decide_eq_true (by omega)] at hb
          exact fun w => near6_big _ w hf hb
        exact (law_far _ _ _ 6 a1 _ w (by omega) hN hB hR hL e1 e2 e3 e4 e5 e6 e8).mono fun e w' h => same h

/-! ### THE ROW's STEP -/
set_option maxRecDepth 100000 in
theorem lifted (os : Os) (started : os.Started) (H : Type) (enc : TypeId × Value → H) :
    ReturnsInHanded {} Try.checked os 3 .any (Rows.edgeNearSpec.pre6 enc Try.prog Try.f3 Rows.edgeNearRow.domain false) (Rows.edgeNearSpec.post enc Try.prog Try.f3 false true false false) := by
  refine returnsInHanded_of_change (C := Try.checked) own started (by kernel_rfl) Try.func3
    (ChangeSpec.witness6 (enc := enc) (C := Try.checked) false ⟨#[], #[.float .f64 0, .bool false], []⟩ 8 (by kernel_rfl) (by kernel_rfl) (by kernel_rfl) (by kernel_rfl)) ?_
  intro W base args ds gs before hval0 hW hcnd _
  have hval : ∀ (j : Nat) t v, Try.f3.params[j]? = some t → args[j]? = some v → Value.okWide Try.prog W .any base t v := hval0
  have hW' := hW
  obtain ⟨p, q, hA0, hV, rfl, hfz, hnd⟩ := hW
  have hA : DataW.TrodAll enc Try.prog W 0 (fun _ => true) true Try.f3.params.toList args.toList ds p := hA0
  rw [Try.params3] at hA hval
  obtain ⟨v0, vs0, d0, ds0, p0, q0, hargs, rfl, rfl, h0, r0⟩ := trodAll_cons hA
  obtain ⟨v1, vs1, d1, ds1, p1, q1, rfl, rfl, rfl, h1, r1⟩ := trodAll_cons r0
  obtain ⟨rfl, rfl, rfl⟩ := trodAll_nil r1
  obtain rfl : args = #[v0, v1] := by cases args; simp_all
  obtain ⟨rfl, rfl⟩ := trodVars_none hV
  obtain ⟨a0, rfl, rfl, rfl, w0⟩ := open_float Try.underlying22 (hval 0 22 v0 rfl rfl) h0
  obtain ⟨a1, rfl, rfl, rfl⟩ := open_bool Try.underlying4 (hval 1 4 v1 rfl rfl) h1
  clear hA0 hval0
  simp only [List.append_nil] at hW'
  refine (walk a0 a1 w0 W).mono fun e W' ⟨he, hg⟩ => ?_
  subst he
  exact ⟨_, rfl, post_of_same (pa := []) (pv := []) hW' (fun _ _ _ => (trodAll_cons_mk (shut_bool Try.underlying4 _) trodAll_mk0)) (fun sp _ => (trodAll_cons_mk (shut_float Try.underlying22 w0) (trodAll_cons_mk (shut_bool Try.underlying4 _) trodAll_mk0))) (fun _ _ => rfl) rfl
    (hg.frame _) hg.2.1 (ok_one (by kernel_rfl) rfl (okWide_bool_mk Try.underlying4 _))⟩

theorem over : Rows.edgeNearRow.holds Try.pinned (OpenSpec.ofChange Rows.edgeNearSpec) :=
  OpenClaim.holds_of_wide 3 Try.f3 rfl rfl rfl rfl rfl rfl rfl ⟨rfl, rfl, rfl, rfl, rfl⟩ rfl rfl rfl rfl rfl (by kernel_rfl) Try.func3 (by kernel_rfl)
    (of_decide_eq_true (by kernel_rfl)) (by unfold Func.isWrapper; first | (rw [if_pos (by decide +kernel)]; kernel_rfl) | (rw [if_neg (by decide +kernel)]; exact ⟨rfl, rfl⟩))
    (fun os started H enc _ => lifted os started H enc)

theorem edgeNear_proved : Rows.EdgeNearSaid :=
  over
#print axioms edgeNear_proved
end Go.Proofs.Yteeppbkkgleagab
