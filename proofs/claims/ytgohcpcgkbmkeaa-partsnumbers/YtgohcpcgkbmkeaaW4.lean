import Derived.Test.YtgohcpcgkbmkeaaW3
namespace Go.Proofs.Ytgohcpcgkbmkeaa
open Go.RowKit
set_option linter.unusedVariables false
def ldexpN (x : Nat) (e : Int) : Nat := (ldexpO x e).getD 0
theorem ldexpN_of {x : Nat} {e : Int} (h : (ldexpO x e).isSome = true) : ldexpO x e = some (ldexpN x e) := by
  obtain ⟨r, hr⟩ := Option.isSome_iff_exists.1 h
  unfold ldexpN
  rw [hr]; rfl
theorem scale11lo (a b : Nat) (q : Int) (w : World) (hq : q < -2200) (ha : (ldexpO a (-2200)).isSome = true) (hb : (ldexpO b (-2200)).isSome = true) :
    Calls Try.prog 11 #[.complex .f64 a b, .int .i64 q] w fun e w' => e = .returned (.complex .f64 (ldexpN a (-2200)) (ldexpN b (-2200))) ∧ w' = w := by
  have HA : Hid (ldexpO a (-2200) = some (ldexpN a (-2200))) := ldexpN_of ha
  have HB : Hid (ldexpO b (-2200) = some (ldexpN b (-2200))) := ldexpN_of hb
  clear ha hb
  go_enter Try.func11, Try.ntmps11
  go_wp2_with fail
  refine (scale24 _ _ _ _ HA.out (by omega) (by omega)).mono ?_
  rintro e w' ⟨rfl, rfl⟩
  go_wp2_with fail
  refine (scale24 _ _ _ _ HB.out (by omega) (by omega)).mono ?_
  rintro e w' ⟨rfl, rfl⟩
  go_wp2_with fail
  go_ret
  exact ⟨rfl, rfl⟩
theorem scale11hi (a b : Nat) (q : Int) (w : World) (hq : 2200 < q) (ha : (ldexpO a 2200).isSome = true) (hb : (ldexpO b 2200).isSome = true) :
    Calls Try.prog 11 #[.complex .f64 a b, .int .i64 q] w fun e w' => e = .returned (.complex .f64 (ldexpN a 2200) (ldexpN b 2200)) ∧ w' = w := by
  have HA : Hid (ldexpO a 2200 = some (ldexpN a 2200)) := ldexpN_of ha
  have HB : Hid (ldexpO b 2200 = some (ldexpN b 2200)) := ldexpN_of hb
  have hq2 : ¬ q < -2200 := by omega
  clear ha hb
  go_enter Try.func11, Try.ntmps11
  go_wp2_with fail
  refine (scale24 _ _ _ _ HA.out (by omega) (by omega)).mono ?_
  rintro e w' ⟨rfl, rfl⟩
  go_wp2_with fail
  refine (scale24 _ _ _ _ HB.out (by omega) (by omega)).mono ?_
  rintro e w' ⟨rfl, rfl⟩
  go_wp2_with fail
  go_ret
  exact ⟨rfl, rfl⟩
theorem scale11 (a b : Nat) (q : Int) (w : World) (hq1 : -2200 ≤ q) (hq2 : q ≤ 2200) (ha : (ldexpO a q).isSome = true) (hb : (ldexpO b q).isSome = true) :
    Calls Try.prog 11 #[.complex .f64 a b, .int .i64 q] w fun e w' => e = .returned (.complex .f64 (ldexpN a q) (ldexpN b q)) ∧ w' = w := by
  have HA : Hid (ldexpO a q = some (ldexpN a q)) := ldexpN_of ha
  have HB : Hid (ldexpO b q = some (ldexpN b q)) := ldexpN_of hb
  have hq3 : ¬ q < -2200 := by omega
  clear ha hb
  go_enter Try.func11, Try.ntmps11
  go_wp2_with fail
  refine (scale24 _ _ _ _ HA.out (by omega) (by omega)).mono ?_
  rintro e w' ⟨rfl, rfl⟩
  go_wp2_with fail
  refine (scale24 _ _ _ _ HB.out (by omega) (by omega)).mono ?_
  rintro e w' ⟨rfl, rfl⟩
  go_wp2_with fail
  go_ret
  exact ⟨rfl, rfl⟩
theorem join19a (w : World) (a b : Addr) :
    Calls Try.prog 19 #[.slice (some a) 2 2, .slice (some b) 1 1] w fun e w' => e = .returned (.tuple #[.slice none 0 0, .int .i64 4]) ∧ w' = w := by
  go_enter Try.func19, Try.ntmps19
  go_wp2
  go_ret2
  exact ⟨rfl, rfl⟩
theorem join19b (w : World) :
    Calls Try.prog 19 #[.slice none 0 0, .slice none 0 0] w fun e w' => e = .returned (.tuple #[.slice (some ⟨w.heap.size, 0, none⟩) 0 0, .int .i64 0]) ∧ w' = w.alloc (.cells #[] 27) := by
  have hmk : ∀ w, (Instr.makeSlice 36 (.int .i64 0) (.int .i64 0)).run Try.prog w = .ok (.slice (some ⟨w.heap.size, 0, none⟩) 0 0) (w.alloc (.cells #[] 27)) := fun _ => by kernel_rfl
  go_enter Try.func19, Try.ntmps19
  go_wp2
  go_loop [18] (fun i => i = .int .i64 0) (fun _ => 0)
  case atStart => exact rfl
  case round =>
    subst hrel
    go_wp2
    go_ret2
    exact ⟨rfl, rfl⟩
theorem awake20 (w : World) : Calls Try.prog 20 #[] w fun e w' => e = .returned (.bool true) ∧ w' = w := by
  have e1 : sameB (mulRe 4607182418800017408 4611686018427387904 4613937818241073152 4616189618054758400) 13840687554816376832 = true := by decide +kernel
  have e2 : sameB (mulIm 4607182418800017408 4611686018427387904 4613937818241073152 4616189618054758400) 4621819117588971520 = true := by decide +kernel
  have e3 : (sameB 0 0) = true := by decide +kernel
  have e4 : (sameB 0 (copyN 0 13830554455654793216)) = false := by decide +kernel
  have e5 : FloatKind.f64.format.order 4619567317775286272 4619567317775286272 = some .eq := by decide +kernel
  go_enter Try.func20, Try.ntmps20
  go_wp2_with (first | (go_at_call 8; refine (mul8v _ _ _ _ _ (by decide +kernel)).mono ?_; rintro e w' ⟨rfl, rfl⟩) | (go_at_call 13; refine (same13 _ _ _ _ _).mono ?_; rintro e w' ⟨rfl, rfl⟩) | (go_at_call 4; refine (copy4 _ _ _).mono ?_; rintro e w' ⟨rfl, rfl⟩) | (go_at_call 16; refine (size16 _ _ 4619567317775286272 _ (by decide +kernel)).mono ?_; rintro e w' ⟨rfl, rfl⟩))
  go_ret
  exact ⟨rfl, rfl⟩
theorem same7t (a b c d : Nat) (w : World) (h : (sameB a c && sameB b d) = true) : Calls Try.prog 7 #[.complex .f64 a b, .complex .f64 c d] w fun e w' => e = .returned (.bool true) ∧ w' = w := by
  have := same7 a b c d w
  rw [h] at this
  exact this
theorem same13r (a b c d : Nat) (r : Bool) (w : World) (h : (sameB a c && sameB b d) = r) : Calls Try.prog 13 #[.complex .f64 a b, .complex .f64 c d] w fun e w' => e = .returned (.bool r) ∧ w' = w := by
  have := same13 a b c d w
  rw [h] at this
  exact this
theorem nan_right {x y : Nat} (hx : nanB x = true) (hy : nanB y = true) : sameB x y = true := by
  simp [sameB, hx, hy]
end Go.Proofs.Ytgohcpcgkbmkeaa
