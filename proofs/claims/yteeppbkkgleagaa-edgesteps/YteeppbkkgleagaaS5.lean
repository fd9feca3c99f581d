import Derived.Test.YteeppbkkgleagaaS4
namespace Go.Proofs.Yteeppbkkgleagaa
open Go.RowKit
open Ieee
set_option linter.unusedVariables false

theorem steps_walk (x nx d : Nat) (n k ec : Int) (up ok : Bool) (w : World)
    (hW : ∀ w, Calls Try.prog 25 #[.float .f64 x] w fun e w' => e = .returned (.tuple #[.int .i64 n, .bool ok]) ∧ Grown w w')
    (hV : ∀ w, Calls Try.prog 26 #[.float .f64 x] w fun e w' => e = .returned (.tuple #[.int .i64 n, .bool ok]) ∧ Grown w w')
    (hN : ∀ w, Calls Try.prog 27 #[.float .f64 x] w fun e w' => e = .returned (.tuple #[.int .i64 k, .float .f64 d, .int .i64 ec]) ∧ Grown w w')
    (hR : ∀ w, Calls Try.prog 28 #[.float .f64 x] w fun e w' => e = .returned (.tuple #[.int .i64 k, .float .f64 d, .int .i64 ec]) ∧ Grown w w')
    (hA : ∀ w, Calls Try.prog 29 #[.float .f64 x, .bool up] w fun e w' => e = .returned (.float .f64 nx) ∧ w' = w)
    (hB : ∀ w, Calls Try.prog 30 #[.float .f64 x, .bool up] w fun e w' => e = .returned (.float .f64 nx) ∧ w' = w) :
    Calls Try.prog 5 #[.float .f64 x, .bool up] w fun e w' => e = .returned (.bool true) ∧ Grown w w' := by
  have HW : Hid (∀ w, Calls Try.prog 25 #[.float .f64 x] w fun e w' => e = .returned (.tuple #[.int .i64 n, .bool ok]) ∧ Grown w w') := hW
  have HV : Hid (∀ w, Calls Try.prog 26 #[.float .f64 x] w fun e w' => e = .returned (.tuple #[.int .i64 n, .bool ok]) ∧ Grown w w') := hV
  have HN : Hid (∀ w, Calls Try.prog 27 #[.float .f64 x] w fun e w' => e = .returned (.tuple #[.int .i64 k, .float .f64 d, .int .i64 ec]) ∧ Grown w w') := hN
  have HR : Hid (∀ w, Calls Try.prog 28 #[.float .f64 x] w fun e w' => e = .returned (.tuple #[.int .i64 k, .float .f64 d, .int .i64 ec]) ∧ Grown w w') := hR
  have HA : Hid (∀ w, Calls Try.prog 29 #[.float .f64 x, .bool up] w fun e w' => e = .returned (.float .f64 nx) ∧ w' = w) := hA
  have HB : Hid (∀ w, Calls Try.prog 30 #[.float .f64 x, .bool up] w fun e w' => e = .returned (.float .f64 nx) ∧ w' = w) := hB
  clear hW hV hN hR hA hB
  have s1 := sameB_refl nx
  have s2 := sameB_refl d
  go_enter Try.func5, Try.ntmps5
  go_wp2_with (first | (go_at_call 9; refine (awake4 _).mono ?_; rintro e w' ⟨rfl, rfl⟩) | (go_at_call 25; refine (HW.out _).mono ?_; rintro e w' ⟨rfl, g25⟩) | (go_at_call 26; refine (HV.out _).mono ?_; rintro e w' ⟨rfl, g26⟩) | (go_at_call 27; refine (HN.out _).mono ?_; rintro e w' ⟨rfl, g27⟩) | (go_at_call 28; refine (HR.out _).mono ?_; rintro e w' ⟨rfl, g28⟩) | (go_at_call 29; refine (HA.out _).mono ?_; rintro e w' ⟨rfl, rfl⟩) | (go_at_call 30; refine (HB.out _).mono ?_; rintro e w' ⟨rfl, rfl⟩) | (go_at_call 10; refine (same10 _ _ _).mono ?_; rintro e w' ⟨rfl, rfl⟩))
  go_ret
  exact ⟨rfl, grown_trans (grown_trans (grown_trans g25 g26) g27) g28⟩

theorem still {K : Nat} {a : Array Value} {w : World} {v : Value} (h : Calls Try.prog K a w fun e w' => e = .returned v ∧ w' = w) : Calls Try.prog K a w fun e w' => e = .returned v ∧ Grown w w' :=
  h.mono fun e w' ⟨h1, h2⟩ => ⟨h1, h2 ▸ Grown.refl _⟩
theorem drawn {K : Nat} {a : Array Value} {w : World} {v : Value} (h : Calls Try.prog K a w fun e w' => e = .returned v ∧ w' = w.drew) : Calls Try.prog K a w fun e w' => e = .returned v ∧ Grown w w' :=
  h.mono fun e w' ⟨h1, h2⟩ => ⟨h1, h2 ▸ (Grown.refl _).drew⟩

theorem steps (s : Bool) (r : Nat) (up : Bool) (w : World) (hr : r < 9223372036854775808) :
    Calls Try.prog 5 #[.float .f64 (W s r), .bool up] w fun e w' => e = .returned (.bool true) ∧ Grown w w' := by
  have hA := fun w => next5 s r up w hr
  have hB := fun w => rnext30 s r up w hr
  by_cases h1 : 9218868437227405312 < r
  · have hf : finB (W s r) = false := by rw [finB_W s r hr]; exact decide_eq_false (by omega)
    exact steps_walk _ _ _ _ _ _ up _ w (fun w => whole9_nan s r w hr h1) (fun w => still (rwhole_nan s r w hr h1)) (fun w => still (near6_not _ w hf)) (fun w => drawn (rnear_not s r w hr (by omega))) hA hB
  by_cases hK : 4845873199050653696 < r
  · have hW := fun w => still (whole9_big s r w hK (by omega))
    have hV := fun w => still (rwhole_big s r w hK (by omega))
    by_cases hI : r = 9218868437227405312
    · have hf : finB (W s r) = false := by rw [finB_W s r hr]; exact decide_eq_false (by omega)
      exact steps_walk _ _ _ _ _ _ up _ w hW hV (fun w => still (near6_not _ w hf)) (fun w => drawn (rnear_not s r w hr (by omega))) hA hB
    · have hf : finB (W s r) = true := by rw [finB_W s r hr]; exact decide_eq_true (by omega)
      have hb := bigB_W s r hr
      rw [decide_eq_true hK, decide_eq_true (by omega)] at hb
      exact steps_walk _ _ _ _ _ _ up _ w hW hV (fun w => still (near6_big _ w hf hb)) (fun w => still (rnear_big s r w hK (by omega))) hA hB
  · obtain ⟨d, hd, hdist, _, _, _⟩ := near_dist r
    have hN := fun w => still (near6 s r d w (by omega) hd hdist)
    have hR := fun w => still (rnear_small s r d w (by omega) hd hdist)
    have hV := fun w => rwhole_small s r w (by omega)
    by_cases hm : M r % U = 0
    · rw [if_pos hm] at hV
      exact steps_walk _ _ _ _ _ _ up _ w (fun w => still (whole9_yes s r w (by omega) hm)) (fun w => still (hV w)) hN hR hA hB
    · rw [if_neg hm] at hV
      exact steps_walk _ _ _ _ _ _ up _ w (fun w => still (whole9_no s r w (by omega) hm)) (fun w => still (hV w)) hN hR hA hB
end Go.Proofs.Yteeppbkkgleagaa
