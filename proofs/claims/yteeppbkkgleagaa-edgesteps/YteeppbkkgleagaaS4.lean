import Derived.Test.YteeppbkkgleagaaS3
namespace Go.Proofs.Yteeppbkkgleagaa
open Go.RowKit
open Ieee
set_option linter.unusedVariables false

theorem rnear_up (x f0 y0 d0 f1 y1 d1 : Nat) (n0 n1 : Int) (w : World) (k p : Bool)
    (hF : ∀ w, Calls Try.prog 42 #[.float .f64 x] w fun e w' => e = .returned (.bool true) ∧ w' = w)
    (b1 : (FloatKind.f64.format.order x 14069245235905429504 == some .gt || FloatKind.f64.format.order x 14069245235905429504 == some .eq) = true)
    (b2 : (FloatKind.f64.format.order x 4845873199050653696 == some .lt || FloatKind.f64.format.order x 4845873199050653696 == some .eq) = true)
    (hc : (convert 22 2 (.float .f64 x)).run Try.prog w = .ok (.int .i64 n0) w) (hf : floatOfInt .f64 n0 = f0) (hs : double.sub x f0 = some y0) (ha : absN y0 = d0)
    (hf1 : floatOfInt .f64 n1 = f1) (hs1 : double.sub x f1 = some y1) (ha1 : absN y1 = d1)
    (hl : -9007199254740992 ≤ n0) (hh : n0 ≤ 9007199254740992) (hp : posB x = p) (hn : n1 = if p then n0 + 1 else n0 - 1)
    (g : (FloatKind.f64.format.order d0 4602678819172646912 == some .gt) = k) (k1 : k = false → (FloatKind.f64.format.order d0 4602678819172646912 == some .eq) = true ∧ n0.tmod 2 ≠ 0) :
    Calls Try.prog 28 #[.float .f64 x] w fun e w' => e = .returned (.tuple #[.int .i64 n1, .float .f64 d1, .int .i64 0]) ∧ w' = w := by
  have HF : Hid (∀ w, Calls Try.prog 42 #[.float .f64 x] w fun e w' => e = .returned (.bool true) ∧ w' = w) := hF
  clear hF
  have g1 := sub_run w _ _ _ hs
  have g2 := sub_run w _ _ _ hs1
  clear hs hs1
  unfold posB at hp
  cases p <;> simp only [Bool.false_eq_true, if_false, if_true] at hn
  · subst hn
    cases k
    · obtain ⟨k1, k2⟩ := k1 rfl
      rcases or_true_split b1 with d1 | ⟨d1, d2⟩ <;> rcases or_true_split b2 with e1 | ⟨e1, e2⟩
      all_goals
        clear b1 b2
        go_enter Try.func28, Try.ntmps28
        go_wp2_with (first | (go_at_call 42; refine (HF.out _).mono ?_; rintro e w' ⟨rfl, rfl⟩) | (go_at_call 56; refine (abs16 _ _).mono ?_; rintro e w' ⟨rfl, rfl⟩))
        go_ret3
        exact ⟨rfl, rfl⟩
    · clear k1
      rcases or_true_split b1 with d1 | ⟨d1, d2⟩ <;> rcases or_true_split b2 with e1 | ⟨e1, e2⟩
      all_goals
        clear b1 b2
        go_enter Try.func28, Try.ntmps28
        go_wp2_with (first | (go_at_call 42; refine (HF.out _).mono ?_; rintro e w' ⟨rfl, rfl⟩) | (go_at_call 56; refine (abs16 _ _).mono ?_; rintro e w' ⟨rfl, rfl⟩))
        go_ret3
        exact ⟨rfl, rfl⟩
  · subst hn
    cases k
    · obtain ⟨k1, k2⟩ := k1 rfl
      rcases or_true_split b1 with d1 | ⟨d1, d2⟩ <;> rcases or_true_split b2 with e1 | ⟨e1, e2⟩
      all_goals
        clear b1 b2
        go_enter Try.func28, Try.ntmps28
        go_wp2_with (first | (go_at_call 42; refine (HF.out _).mono ?_; rintro e w' ⟨rfl, rfl⟩) | (go_at_call 56; refine (abs16 _ _).mono ?_; rintro e w' ⟨rfl, rfl⟩))
        go_ret3
        exact ⟨rfl, rfl⟩
    · clear k1
      rcases or_true_split b1 with d1 | ⟨d1, d2⟩ <;> rcases or_true_split b2 with e1 | ⟨e1, e2⟩
      all_goals
        clear b1 b2
        go_enter Try.func28, Try.ntmps28
        go_wp2_with (first | (go_at_call 42; refine (HF.out _).mono ?_; rintro e w' ⟨rfl, rfl⟩) | (go_at_call 56; refine (abs16 _ _).mono ?_; rintro e w' ⟨rfl, rfl⟩))
        go_ret3
        exact ⟨rfl, rfl⟩

theorem sgnI_mod (s : Bool) (q : Nat) : (sgnI s q).tmod 2 = 0 ↔ q % 2 = 0 := by
  unfold sgnI
  cases s
  · simp only [Bool.false_eq_true, if_false]
    rw [Int.tmod_eq_emod_of_nonneg (by omega)]; omega
  · simp only [if_true]
    rw [Int.neg_tmod, Int.tmod_eq_emod_of_nonneg (by omega)]; omega

theorem rnear_small (s : Bool) (r d : Nat) (w : World) (hr : r ≤ 4845873199050653696) (hd : d < 9218868437227405312) (h : ((M r : Int) - ((evN r * U : Nat) : Int)).natAbs = M d) :
    Calls Try.prog 28 #[.float .f64 (W s r)] w fun e w' => e = .returned (.tuple #[.int .i64 (sgnI s (evN r)), .float .f64 d, .int .i64 0]) ∧ w' = w := by
  have hU := U_pos
  have hq := div_K hr
  obtain ⟨b1, b2⟩ := ends_W s r (by omega)
  obtain ⟨c1, c2⟩ := small_ends s r hr
  rw [c1] at b1
  rw [c2] at b2
  have hF := fun w => rfin42 s r w (by omega)
  have hc := conv_int s r w hr
  have h3 := Nat.div_add_mod (M r) U
  rw [Nat.mul_comm] at h3
  have hlt := Nat.mod_lt (M r) hU
  obtain ⟨d0, hd0, hd0'⟩ := rest_rep r
  have hdist0 : ((M r : Int) - ((M r / U * U : Nat) : Int)).natAbs = M d0 := by
    rw [hd0]
    generalize M r / U * U = z at *
    omega
  obtain ⟨sg, hs⟩ := sub_whole s r (M r / U) d0 hr hq hd0' hdist0
  have hf := floatOfInt_sgnI s _ hq
  have hab := abs_W sg d0 (by omega)
  have hh := M_half
  have k3 : (FloatKind.f64.format.order d0 4602678819172646912 == some .gt) = decide (M 4602678819172646912 < M d0) := by
    have h := B_gt false false d0 4602678819172646912 (by omega) (by omega)
    rw [show W false d0 = d0 from rfl, show W false 4602678819172646912 = 4602678819172646912 from rfl] at h
    rw [h]
    unfold val
    simp
  have k4 : (FloatKind.f64.format.order d0 4602678819172646912 == some .eq) = decide (M d0 = M 4602678819172646912) := by
    have h := B_eq false false d0 4602678819172646912 (by omega) (by omega)
    rw [show W false d0 = d0 from rfl, show W false 4602678819172646912 = 4602678819172646912 from rfl] at h
    rw [h]
    unfold val
    simp only [Bool.false_eq_true, if_false]
    exact decide_eq_decide.2 Int.ofNat_inj
  have hm := sgnI_mod s (M r / U)
  clear c1 c2
  generalize M 4602678819172646912 = HH at *
  cases he : evenUp (M r / U) (M r % U) U
  · have hev : evN r = M r / U := by unfold evN; rw [he]; rfl
    rw [hev] at h ⊢
    have hdd : d0 = d := M_inj (by rw [← hdist0, h])
    unfold evenUp at he
    rw [Bool.or_eq_false_iff] at he
    have he1 := of_decide_eq_false he.1
    clear h h3 hdist0
    rw [decide_eq_false (by omega)] at k3
    rw [← hdd]
    refine rnear_keep _ _ _ d0 _ w _ hF b1 b2 hc hf hs hab k3 k4 ?_
    intro hk
    have hk := of_decide_eq_true hk
    have he2 := he.2
    have : (U == 2 * (M r % U)) = true := beq_iff_eq.2 (by omega)
    rw [this, Bool.true_and] at he2
    have he3 := beq_eq_false_iff_ne.1 he2
    rw [hm]
    omega
  · have hev : evN r = M r / U + 1 := by unfold evN; rw [he]; rfl
    have hcap := evN_K hr
    rw [hev] at h hcap ⊢
    obtain ⟨sg1, hs1⟩ := sub_whole s r (M r / U + 1) d hr hcap hd h
    clear h h3 hdist0
    have hf1 := floatOfInt_sgnI s _ hcap
    have hab1 := abs_W sg1 d (by omega)
    have hpos := posB_W s r (by omega)
    have hup : U < 2 * (M r % U) ∨ (U = 2 * (M r % U) ∧ M r / U % 2 = 1) := by
      unfold evenUp at he
      rw [Bool.or_eq_true, Bool.and_eq_true] at he
      rcases he with he | he
      · exact Or.inl (of_decide_eq_true he)
      · exact Or.inr ⟨beq_iff_eq.1 he.1, beq_iff_eq.1 he.2⟩
    have hr0 : r ≠ 0 := by
      intro h0
      subst h0
      rw [M_zero] at hup
      simp at hup
    rw [decide_eq_true hr0, Bool.and_true] at hpos
    refine rnear_up _ _ _ d0 _ _ d _ _ w _ _ hF b1 b2 hc hf hs hab hf1 hs1 hab1 ?_ ?_ hpos ?_ k3 ?_
    · unfold sgnI; cases s <;> simp only [Bool.false_eq_true, if_false, if_true] <;> omega
    · unfold sgnI; cases s <;> simp only [Bool.false_eq_true, if_false, if_true] <;> omega
    · unfold sgnI; cases s <;> simp <;> omega
    · intro hk
      have hk := of_decide_eq_false hk
      rcases hup with hup | ⟨hup, hodd⟩
      · omega
      · refine ⟨by rw [k4]; exact decide_eq_true (by omega), ?_⟩
        rw [Ne, hm]
        omega
end Go.Proofs.Yteeppbkkgleagaa
