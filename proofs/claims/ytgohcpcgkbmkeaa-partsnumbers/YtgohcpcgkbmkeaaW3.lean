import Derived.Test.YtgohcpcgkbmkeaaW2
namespace Go.Proofs.Ytgohcpcgkbmkeaa
open Go.RowKit
set_option linter.unusedVariables false
theorem norm35s (x r : Nat) (w : World) (h : FloatKind.f64.format.order (absN x) 4503599627370496 = some .lt) (hm : floatBits .mul .f64 x 4841369599423283200 = some r) :
    Calls Try.prog 35 #[.float .f64 x] w fun e w' => e = .returned (.tuple #[.float .f64 r, .int .i64 (-52)]) ∧ w' = w := by
  have g3 := run_float_arith (P := Try.prog) w .mul 22 .f64 _ _ _ hm
  clear hm
  go_enter Try.func35, Try.ntmps35
  go_wp2_with (go_at_call 26; refine (abs26 _ _).mono ?_; rintro e w' ⟨rfl, rfl⟩)
  go_ret2
  exact ⟨rfl, rfl⟩
theorem norm35n (x : Nat) (w : World) (h : (FloatKind.f64.format.order (absN x) 4503599627370496 == some .lt) = false) :
    Calls Try.prog 35 #[.float .f64 x] w fun e w' => e = .returned (.tuple #[.float .f64 x, .int .i64 0]) ∧ w' = w := by
  go_enter Try.func35, Try.ntmps35
  go_wp2_with (go_at_call 26; refine (abs26 _ _).mono ?_; rintro e w' ⟨rfl, rfl⟩)
  go_ret2
  exact ⟨rfl, rfl⟩
def putExp (f : Nat) (S : Int) : Nat := (bits BinOp.or IntKind.u64 (bits BinOp.andNot IntKind.u64 (↑f) 9218868437227405312) ((S + 1023) * 4503599627370496)).toNat
theorem ldexp34a (x f : Nat) (e k E : Int) (w : World) (h0 : (FloatKind.f64.format.order x 0 == some .eq) = false) (h1 : infB x = false) (h2 : nanB x = false)
    (hn : ∀ w, Calls Try.prog 35 #[.float .f64 x] w fun e w' => e = .returned (.tuple #[.float .f64 f, .int .i64 k]) ∧ w' = w) (he1 : -3000 ≤ e) (he2 : e ≤ 3000) (hk1 : -52 ≤ k) (hk2 : k ≤ 0)
    (hE : bits BinOp.and IntKind.i64 (wrap64 (↑f / 4503599627370496)) 2047 = E) (hE1 : 0 ≤ E) (hE2 : E ≤ 2047) (hS : e + k + (E - 1023) < -1075) :
    Calls Try.prog 34 #[.float .f64 x, .int .i64 e] w fun e w' => e = .returned (.float .f64 (copyN 0 f)) ∧ w' = w := by
  have b1 := bits21
  have b2 := from12
  have HN : Hid (∀ w, Calls Try.prog 35 #[.float .f64 x] w fun e w' => e = .returned (.tuple #[.float .f64 f, .int .i64 k]) ∧ w' = w) := hn
  clear hn
  go_enter Try.func34, Try.ntmps34
  go_wp2_with (first | (go_at_call 31; refine (inf31 _ _).mono ?_; rintro e w' ⟨rfl, rfl⟩) | (go_at_call 15; refine (nan15 _ _).mono ?_; rintro e w' ⟨rfl, rfl⟩) | (go_at_call 35; refine (HN.out _).mono ?_; rintro e w' ⟨rfl, rfl⟩) | (go_at_call 4; refine (copy4 _ _ _).mono ?_; rintro e w' ⟨rfl, rfl⟩))
  go_ret
  exact ⟨rfl, rfl⟩
theorem ldexp34b (x f : Nat) (e k E : Int) (w : World) (h0 : (FloatKind.f64.format.order x 0 == some .eq) = false) (h1 : infB x = false) (h2 : nanB x = false)
    (hn : ∀ w, Calls Try.prog 35 #[.float .f64 x] w fun e w' => e = .returned (.tuple #[.float .f64 f, .int .i64 k]) ∧ w' = w) (he1 : -3000 ≤ e) (he2 : e ≤ 3000) (hk1 : -52 ≤ k) (hk2 : k ≤ 0)
    (hE : bits BinOp.and IntKind.i64 (wrap64 (↑f / 4503599627370496)) 2047 = E) (hE1 : 0 ≤ E) (hE2 : E ≤ 2047) (hS : 1023 < e + k + (E - 1023)) (hf : (FloatKind.f64.format.order f 0 == some .lt) = false) :
    Calls Try.prog 34 #[.float .f64 x, .int .i64 e] w fun e w' => e = .returned (.float .f64 9218868437227405312) ∧ w' = w := by
  have b1 := bits21
  have b2 := from12
  have HN : Hid (∀ w, Calls Try.prog 35 #[.float .f64 x] w fun e w' => e = .returned (.tuple #[.float .f64 f, .int .i64 k]) ∧ w' = w) := hn
  clear hn
  go_enter Try.func34, Try.ntmps34
  go_wp2_with (first | (go_at_call 31; refine (inf31 _ _).mono ?_; rintro e w' ⟨rfl, rfl⟩) | (go_at_call 15; refine (nan15 _ _).mono ?_; rintro e w' ⟨rfl, rfl⟩) | (go_at_call 35; refine (HN.out _).mono ?_; rintro e w' ⟨rfl, rfl⟩) | (go_at_call 4; refine (copy4 _ _ _).mono ?_; rintro e w' ⟨rfl, rfl⟩) | (go_at_call 5; refine (inf5 _ _ (by omega)).mono ?_; rintro e w' ⟨rfl, rfl⟩))
  go_ret
  exact ⟨rfl, rfl⟩
theorem ldexp34m (x f : Nat) (e k E : Int) (w : World) (h0 : (FloatKind.f64.format.order x 0 == some .eq) = false) (h1 : infB x = false) (h2 : nanB x = false)
    (hn : ∀ w, Calls Try.prog 35 #[.float .f64 x] w fun e w' => e = .returned (.tuple #[.float .f64 f, .int .i64 k]) ∧ w' = w) (he1 : -3000 ≤ e) (he2 : e ≤ 3000) (hk1 : -52 ≤ k) (hk2 : k ≤ 0)
    (hE : bits BinOp.and IntKind.i64 (wrap64 (↑f / 4503599627370496)) 2047 = E) (hE1 : 0 ≤ E) (hE2 : E ≤ 2047) (hS : 1023 < e + k + (E - 1023)) (hf : (FloatKind.f64.format.order f 0 == some .lt) = true) :
    Calls Try.prog 34 #[.float .f64 x, .int .i64 e] w fun e w' => e = .returned (.float .f64 18442240474082181120) ∧ w' = w := by
  have b1 := bits21
  have b2 := from12
  have HN : Hid (∀ w, Calls Try.prog 35 #[.float .f64 x] w fun e w' => e = .returned (.tuple #[.float .f64 f, .int .i64 k]) ∧ w' = w) := hn
  clear hn
  go_enter Try.func34, Try.ntmps34
  go_wp2_with (first | (go_at_call 31; refine (inf31 _ _).mono ?_; rintro e w' ⟨rfl, rfl⟩) | (go_at_call 15; refine (nan15 _ _).mono ?_; rintro e w' ⟨rfl, rfl⟩) | (go_at_call 35; refine (HN.out _).mono ?_; rintro e w' ⟨rfl, rfl⟩) | (go_at_call 4; refine (copy4 _ _ _).mono ?_; rintro e w' ⟨rfl, rfl⟩) | (go_at_call 5; refine (inf5m _ _ (by omega)).mono ?_; rintro e w' ⟨rfl, rfl⟩))
  go_ret
  exact ⟨rfl, rfl⟩
theorem ldexp34c (x f : Nat) (e k E : Int) (w : World) (h0 : (FloatKind.f64.format.order x 0 == some .eq) = false) (h1 : infB x = false) (h2 : nanB x = false)
    (hn : ∀ w, Calls Try.prog 35 #[.float .f64 x] w fun e w' => e = .returned (.tuple #[.float .f64 f, .int .i64 k]) ∧ w' = w) (he1 : -3000 ≤ e) (he2 : e ≤ 3000) (hk1 : -52 ≤ k) (hk2 : k ≤ 0)
    (hE : bits BinOp.and IntKind.i64 (wrap64 (↑f / 4503599627370496)) 2047 = E) (hE1 : 0 ≤ E) (hE2 : E ≤ 2047) (hS1 : -1022 ≤ e + k + (E - 1023)) (hS2 : e + k + (E - 1023) ≤ 1023) (r : Nat) (hr : floatBits .mul .f64 4607182418800017408 (putExp f (e + k + (E - 1023))) = some r) :
    Calls Try.prog 34 #[.float .f64 x, .int .i64 e] w fun e w' => e = .returned (.float .f64 r) ∧ w' = w := by
  have g := fun w => run_float_arith (P := Try.prog) w .mul 22 .f64 _ _ _ hr
  unfold putExp at g
  clear hr
  have b1 := bits21
  have b2 := from12
  have HN : Hid (∀ w, Calls Try.prog 35 #[.float .f64 x] w fun e w' => e = .returned (.tuple #[.float .f64 f, .int .i64 k]) ∧ w' = w) := hn
  clear hn
  go_enter Try.func34, Try.ntmps34
  go_wp2_with (first | (go_at_call 31; refine (inf31 _ _).mono ?_; rintro e w' ⟨rfl, rfl⟩) | (go_at_call 15; refine (nan15 _ _).mono ?_; rintro e w' ⟨rfl, rfl⟩) | (go_at_call 35; refine (HN.out _).mono ?_; rintro e w' ⟨rfl, rfl⟩) | (go_at_call 4; refine (copy4 _ _ _).mono ?_; rintro e w' ⟨rfl, rfl⟩))
  go_ret
  exact ⟨rfl, rfl⟩
theorem ldexp34d (x f : Nat) (e k E : Int) (w : World) (h0 : (FloatKind.f64.format.order x 0 == some .eq) = false) (h1 : infB x = false) (h2 : nanB x = false)
    (hn : ∀ w, Calls Try.prog 35 #[.float .f64 x] w fun e w' => e = .returned (.tuple #[.float .f64 f, .int .i64 k]) ∧ w' = w) (he1 : -3000 ≤ e) (he2 : e ≤ 3000) (hk1 : -52 ≤ k) (hk2 : k ≤ 0)
    (hE : bits BinOp.and IntKind.i64 (wrap64 (↑f / 4503599627370496)) 2047 = E) (hE1 : 0 ≤ E) (hE2 : E ≤ 2047) (hS1 : -1075 ≤ e + k + (E - 1023)) (hS2 : e + k + (E - 1023) < -1022) (r : Nat) (hr : floatBits .mul .f64 4368491638549381120 (putExp f (e + k + (E - 1023) + 53)) = some r) :
    Calls Try.prog 34 #[.float .f64 x, .int .i64 e] w fun e w' => e = .returned (.float .f64 r) ∧ w' = w := by
  have g := fun w => run_float_arith (P := Try.prog) w .mul 22 .f64 _ _ _ hr
  unfold putExp at g
  clear hr
  have b1 := bits21
  have b2 := from12
  have HN : Hid (∀ w, Calls Try.prog 35 #[.float .f64 x] w fun e w' => e = .returned (.tuple #[.float .f64 f, .int .i64 k]) ∧ w' = w) := hn
  clear hn
  go_enter Try.func34, Try.ntmps34
  go_wp2_with (first | (go_at_call 31; refine (inf31 _ _).mono ?_; rintro e w' ⟨rfl, rfl⟩) | (go_at_call 15; refine (nan15 _ _).mono ?_; rintro e w' ⟨rfl, rfl⟩) | (go_at_call 35; refine (HN.out _).mono ?_; rintro e w' ⟨rfl, rfl⟩) | (go_at_call 4; refine (copy4 _ _ _).mono ?_; rintro e w' ⟨rfl, rfl⟩))
  go_ret
  exact ⟨rfl, rfl⟩
theorem ldexp34i (x : Nat) (e : Int) (w : World) (h : ((FloatKind.f64.format.order x 0 == some .eq) || infB x || nanB x) = true) :
    Calls Try.prog 34 #[.float .f64 x, .int .i64 e] w fun e w' => e = .returned (.float .f64 x) ∧ w' = w := by
  cases h0 : (FloatKind.f64.format.order x 0 == some .eq) <;> cases h1 : infB x <;> cases h2 : nanB x
  · simp [h0, h1, h2] at h
  all_goals
    clear h
    go_enter Try.func34, Try.ntmps34
    go_wp2_with (first | (go_at_call 31; refine (inf31 _ _).mono ?_; rintro e w' ⟨rfl, rfl⟩) | (go_at_call 15; refine (nan15 _ _).mono ?_; rintro e w' ⟨rfl, rfl⟩))
    go_ret
    exact ⟨rfl, rfl⟩
def normP (x : Nat) : Option (Nat × Int) := if (FloatKind.f64.format.order (absN x) 4503599627370496 == some .lt) = true then (floatBits .mul .f64 x 4841369599423283200).map fun f => (f, -52) else some (x, 0)
def expOf (f : Nat) : Int := bits BinOp.and IntKind.i64 (wrap64 (↑f / 4503599627370496)) 2047
def ldexpF (f : Nat) (S : Int) : Option Nat :=
  if S < -1075 then some (copyN 0 f)
  else if 1023 < S then some (if (FloatKind.f64.format.order f 0 == some .lt) = true then 18442240474082181120 else 9218868437227405312)
  else if S < -1022 then floatBits .mul .f64 4368491638549381120 (putExp f (S + 53))
  else floatBits .mul .f64 4607182418800017408 (putExp f S)
def ldexpO (x : Nat) (e : Int) : Option Nat :=
  if ((FloatKind.f64.format.order x 0 == some .eq) || infB x || nanB x) = true then some x
  else match normP x with
    | none => none
    | some (f, k) => if 0 ≤ expOf f ∧ expOf f ≤ 2047 then ldexpF f (e + k + (expOf f - 1023)) else none
theorem ldexp34 (x r : Nat) (e : Int) (w : World) (h : ldexpO x e = some r) (he1 : -3000 ≤ e) (he2 : e ≤ 3000) :
    Calls Try.prog 34 #[.float .f64 x, .int .i64 e] w fun e w' => e = .returned (.float .f64 r) ∧ w' = w := by
  unfold ldexpO at h
  by_cases hs : ((FloatKind.f64.format.order x 0 == some .eq) || infB x || nanB x) = true
  · rw [if_pos hs] at h
    cases h
    exact ldexp34i x e w hs
  · rw [if_neg hs] at h
    have h0 : (FloatKind.f64.format.order x 0 == some .eq) = false := by
      cases hh : (FloatKind.f64.format.order x 0 == some .eq) <;> simp_all
    have h1 : infB x = false := by
      cases hh : infB x <;> simp_all
    have h2 : nanB x = false := by
      cases hh : nanB x <;> simp_all
    have main : ∀ (f : Nat) (k : Int), -52 ≤ k → k ≤ 0 → (∀ w, Calls Try.prog 35 #[.float .f64 x] w fun e w' => e = .returned (.tuple #[.float .f64 f, .int .i64 k]) ∧ w' = w) → 0 ≤ expOf f → expOf f ≤ 2047 → ldexpF f (e + k + (expOf f - 1023)) = some r → Calls Try.prog 34 #[.float .f64 x, .int .i64 e] w fun e w' => e = .returned (.float .f64 r) ∧ w' = w := by
      intro f k hk1 hk2 hn hE1 hE2 hf
      unfold ldexpF at hf
      by_cases c1 : e + k + (expOf f - 1023) < -1075
      · rw [if_pos c1] at hf
        cases hf
        exact ldexp34a x f e k _ w h0 h1 h2 hn he1 he2 hk1 hk2 rfl hE1 hE2 c1
      rw [if_neg c1] at hf
      by_cases c2 : 1023 < e + k + (expOf f - 1023)
      · rw [if_pos c2] at hf
        by_cases c3 : (FloatKind.f64.format.order f 0 == some .lt) = true
        · rw [if_pos c3] at hf
          cases hf
          exact ldexp34m x f e k _ w h0 h1 h2 hn he1 he2 hk1 hk2 rfl hE1 hE2 c2 c3
        · rw [if_neg c3] at hf
          cases hf
          exact ldexp34b x f e k _ w h0 h1 h2 hn he1 he2 hk1 hk2 rfl hE1 hE2 c2 (by simpa using c3)
      rw [if_neg c2] at hf
      by_cases c4 : e + k + (expOf f - 1023) < -1022
      · rw [if_pos c4] at hf
        exact ldexp34d x f e k _ w h0 h1 h2 hn he1 he2 hk1 hk2 rfl hE1 hE2 (by unfold expOf at c1; omega) c4 r hf
      · rw [if_neg c4] at hf
        exact ldexp34c x f e k _ w h0 h1 h2 hn he1 he2 hk1 hk2 rfl hE1 hE2 (by unfold expOf at c4; omega) (by unfold expOf at c2; omega) r hf
    cases hnp : normP x with
    | none => rw [hnp] at h; cases h
    | some fk =>
      obtain ⟨f, k⟩ := fk
      rw [hnp] at h
      simp only at h
      by_cases hE : 0 ≤ expOf f ∧ expOf f ≤ 2047
      · rw [if_pos hE] at h
        unfold normP at hnp
        by_cases c : (FloatKind.f64.format.order (absN x) 4503599627370496 == some .lt) = true
        · rw [if_pos c] at hnp
          cases hm : floatBits .mul .f64 x 4841369599423283200 with
          | none => rw [hm] at hnp; cases hnp
          | some f' =>
            rw [hm] at hnp
            simp at hnp
            obtain ⟨rfl, rfl⟩ := hnp
            exact main _ _ (by omega) (by omega) (fun w => norm35s x _ w (by simpa using c) hm) hE.1 hE.2 h
        · rw [if_neg c] at hnp
          cases hnp
          exact main _ _ (by omega) (by omega) (fun w => norm35n x w (by simpa using c)) hE.1 hE.2 h
      · rw [if_neg hE] at h; cases h
theorem ldexp30 (x r : Nat) (e : Int) (w : World) (h : ldexpO x e = some r) (he1 : -3000 ≤ e) (he2 : e ≤ 3000) :
    Calls Try.prog 30 #[.float .f64 x, .int .i64 e] w fun e w' => e = .returned (.float .f64 r) ∧ w' = w := by
  have H : Hid (ldexpO x e = some r) := h
  clear h
  go_enter Try.func30, Try.ntmps30
  go_wp2_with (go_at_call 34; refine (ldexp34 _ _ _ _ H.out (by omega) (by omega)).mono ?_; rintro e w' ⟨rfl, rfl⟩)
  go_ret
  exact ⟨rfl, rfl⟩
theorem scale24 (x r : Nat) (e : Int) (w : World) (h : ldexpO x e = some r) (he1 : -3000 ≤ e) (he2 : e ≤ 3000) :
    Calls Try.prog 24 #[.float .f64 x, .int .i64 e] w fun e w' => e = .returned (.float .f64 r) ∧ w' = w := by
  have H : Hid (ldexpO x e = some r) := h
  clear h
  go_enter Try.func24, Try.ntmps24
  go_wp2_with (go_at_call 30; refine (ldexp30 _ _ _ _ H.out (by omega) (by omega)).mono ?_; rintro e w' ⟨rfl, rfl⟩)
  go_ret
  exact ⟨rfl, rfl⟩
end Go.Proofs.Ytgohcpcgkbmkeaa
