import Derived.Test.YteompnpfoplppaaW2
import Derived.OwnWalk
namespace Go.Proofs.Yteompnpfoplppaa
open Go.RowKit
open Ieee

theorem ext17 (x : Nat) (w : World) : (callFunc 54 #[.float .f64 x]).run Try.prog w = ((Extern.MathFloor.toIntegral "math.RoundToEven" .even #[.float .f64 x]).run Try.prog w).andThen fun v w' => .ok (.value v) w' :=
  run_callFunc_extern Try.func54 (by kernel_rfl) (by kernel_rfl) (by kernel_rfl) (by kernel_rfl) _ w
theorem ext22 (x : Nat) (w : World) : (callFunc 71 #[.float .f64 x]).run Try.prog w = ((Extern.MathFloor.toIntegral "math.archTrunc" .zero #[.float .f64 x]).run Try.prog w).andThen fun v w' => .ok (.value v) w' :=
  run_callFunc_extern Try.func71 (by kernel_rfl) (by kernel_rfl) (by kernel_rfl) (by kernel_rfl) _ w

theorem m2 (motive : Array Value → Type) (x : Nat) (h1 : (x : Nat) → motive #[.float .f64 x]) (h2 : (x : Array Value) → motive x) : Extern.MathFloor.toIntegral.match_2 motive #[.float .f64 x] h1 h2 = h1 x := rfl
theorem int_num (name : String) (way : Toward) (x : Nat) {s : Bool} {m : Nat} {e : Int} (h : FloatKind.f64.decode x = .number s m e) : Extern.MathFloor.toIntegral name way #[.float .f64 x] = pure (.float .f64 (FloatKind.f64.encode ((Datum.number s m e).integral way))) := by
  unfold Extern.MathFloor.toIntegral
  rw [m2 (fun _ => Sem Value), h]
theorem int_nan (name : String) (way : Toward) (x : Nat) {s : Bool} {t : Nat} (h : FloatKind.f64.decode x = .nan s t) (P : Program) (w : World) : ∃ r, (r = x ∨ r = FloatKind.f64.encode (.nan s (FloatKind.f64.format.quiet t))) ∧ ((Extern.MathFloor.toIntegral name way #[.float .f64 x]).run P w = .ok (.float .f64 r) w ∨ (Extern.MathFloor.toIntegral name way #[.float .f64 x]).run P w = .ok (.float .f64 r) w.drew) := by
  unfold Extern.MathFloor.toIntegral
  rw [m2 (fun _ => Sem Value), h]
  simp only []
  split
  · exact ⟨x, Or.inl rfl, Or.inl rfl⟩
  · refine ⟨_, ?_, Or.inr (by simp only [Sem.run_bind, Sem.run_pure]; rfl)⟩
    split
    · exact Or.inl rfl
    · exact Or.inr rfl
theorem quiet_nan (s : Bool) (t : Nat) : nanB (FloatKind.f64.encode (.nan s (FloatKind.f64.format.quiet t))) = true := by
  have h1 : FloatKind.f64.encode (.nan s (FloatKind.f64.format.quiet t)) = W s (9218868437227405312 + (t ||| 2 ^ 51) % 2 ^ 52) := word_W s _
  have h2 : (t ||| 2 ^ 51) % 2 ^ 52 ≠ 0 := by
    intro h
    have h3 : ((t ||| 2 ^ 51) % 2 ^ 52).testBit 51 = true := by
      rw [Nat.testBit_mod_two_pow, Nat.testBit_or, Nat.testBit_two_pow_self]
      simp
    rw [h] at h3
    simp at h3
  have h4 : (t ||| 2 ^ 51) % 2 ^ 52 < 2 ^ 52 := Nat.mod_lt _ (Nat.two_pow_pos _)
  rw [h1, nanB_W s _ (by omega)]
  exact decide_eq_true (by omega)

/-- the rung of the whole number nearest to a rung -/
def evN (r : Nat) : Nat := M r / U + (evenUp (M r / U) (M r % U) U).toNat

theorem round17 (s : Bool) (r : Nat) (w : World) (hr : r < 9218868437227405312) (hc : evN r ≤ 9007199254740992) :
    (callFunc 54 #[.float .f64 (W s r)]).run Try.prog w = .ok (.value (.float .f64 (W s (ofN (evN r))))) w := by
  have h1 : FloatKind.f64.decode (W s r) = .number s (mant r) (-1074 + (ex r : Int)) := read_fin s r hr
  rw [ext17, int_num _ _ _ h1, even_W]
  have h2 : FloatKind.f64.encode (.number s (M r / U + (evenUp (M r / U) (M r % U) U).toNat) 0) = W s (ofN (evN r)) := (ofN_spec (evN r) hc).2.2 s
  rw [h2]
  rfl
theorem trunc22 (s : Bool) (r : Nat) (w : World) (hr : r < 9218868437227405312) (hc : M r / U ≤ 9007199254740992) :
    (callFunc 71 #[.float .f64 (W s r)]).run Try.prog w = .ok (.value (.float .f64 (W s (ofN (M r / U))))) w := by
  have h1 : FloatKind.f64.decode (W s r) = .number s (mant r) (-1074 + (ex r : Int)) := read_fin s r hr
  rw [ext22, int_num _ _ _ h1, zero_W]
  have h2 : FloatKind.f64.encode (.number s (M r / U) 0) = W s (ofN (M r / U)) := (ofN_spec (M r / U) hc).2.2 s
  rw [h2]
  rfl
theorem trunc18 (s : Bool) (r : Nat) (w : World) (hr : r < 9218868437227405312) (hc : M r / U ≤ 9007199254740992) :
    Calls Try.prog 55 #[.float .f64 (W s r)] w fun e w' => e = .returned (.float .f64 (W s (ofN (M r / U)))) ∧ w' = w := by
  have h := trunc22 s r w hr hc
  go_enter Try.func55, Try.ntmps55
  go_wp2
  go_ret
  exact ⟨rfl, rfl⟩

theorem M_K : M 4845873199050653696 = 9007199254740992 * U := by
  have h := M_at (E74 + 1) 4503599627370496 (Or.inl ⟨by omega, by omega⟩)
  have e : (E74 + 1) * 4503599627370496 + 4503599627370496 = 4845873199050653696 := rfl
  rw [e] at h
  rw [h]
  unfold U
  rw [Nat.pow_succ, Nat.mul_comm (2 ^ E74) 2, ← Nat.mul_assoc]
theorem le_K {r : Nat} (h : r ≤ 4845873199050653696) : M r ≤ 9007199254740992 * U := by
  rw [← M_K]; exact M_le h
theorem div_K {r : Nat} (h : r ≤ 4845873199050653696) : M r / U ≤ 9007199254740992 := by
  rw [Nat.div_le_iff_le_mul U_pos]
  have := le_K h
  have := U_pos
  omega
theorem evN_K {r : Nat} (h : r ≤ 4845873199050653696) : evN r ≤ 9007199254740992 := by
  have h1 := le_K h
  have hU := U_pos
  unfold evN
  have h2 := div_K h
  by_cases h3 : M r / U = 9007199254740992
  · have h4 : M r % U = 0 := by
      have := Nat.div_add_mod (M r) U
      rw [h3, Nat.mul_comm] at this
      omega
    rw [h4, evenUp_zero _ _ hU]
    exact h2
  · have := Bool.toNat_le (evenUp (M r / U) (M r % U) U)
    omega

/-- is the size above 2^53? -/
def bigB (x : Nat) : Bool := FloatKind.f64.format.order (absN x) 4845873199050653696 == some .gt
theorem bigB_W (s : Bool) (r : Nat) (h : r < 9223372036854775808) : bigB (W s r) = (decide (4845873199050653696 < r) && decide (r ≤ 9218868437227405312)) := by
  unfold bigB
  rw [abs_W s r h, f64_format]
  have e : FloatKind.f64.format.order r 4845873199050653696 = double.order (W false r) (W false 4845873199050653696) := rfl
  by_cases hn : 9218868437227405312 < r
  · rw [f64_format] at e
    rw [e, order_nan_left false r _ h hn, decide_eq_false (p := r ≤ 9218868437227405312) (by omega), Bool.and_false]
    rfl
  · rw [f64_format] at e
    rw [e, order_W false false r _ (by omega) (by omega), decide_eq_true (p := r ≤ 9218868437227405312) (by omega), Bool.and_true]
    unfold val
    simp only [Bool.false_eq_true, if_false]
    rcases Nat.lt_trichotomy r 4845873199050653696 with h1 | h1 | h1
    · have := M_lt h1
      rw [compare_lt (by omega), decide_eq_false (by omega)]; rfl
    · subst h1
      rw [compare_eq rfl, decide_eq_false (by omega)]; rfl
    · have := M_lt h1
      rw [compare_gt (by omega), decide_eq_true h1]; rfl

theorem val_inj_ofN (s : Bool) (r : Nat) (h : r ≤ 4845873199050653696) : (FloatKind.f64.format.order (W s r) (W s (ofN (M r / U))) != some .eq) = decide (M r % U ≠ 0) := by
  obtain ⟨h1, h2, _⟩ := ofN_spec (M r / U) (div_K h)
  rw [f64_format, order_W s s _ _ (by omega) (by omega)]
  have h3 := Nat.div_add_mod (M r) U
  rw [Nat.mul_comm] at h3
  have h4 : (val s r = val s (ofN (M r / U))) ↔ M r % U = 0 := by
    unfold val
    rw [h1]
    generalize M r / U * U = q at *
    cases s <;> simp only [Bool.false_eq_true, if_false, if_true] <;> omega
  by_cases h5 : M r % U = 0
  · rw [compare_eq (h4.2 h5), decide_eq_false (by omega)]; rfl
  · rw [decide_eq_true h5]
    rcases Int.lt_trichotomy (val s r) (val s (ofN (M r / U))) with h6 | h6 | h6
    · rw [compare_lt h6]; rfl
    · exact absurd (h4.1 h6) h5
    · rw [compare_gt h6]; rfl

def sgnI (s : Bool) (n : Nat) : Int := if s then -(n : Int) else (n : Int)

theorem whole9_big (s : Bool) (r : Nat) (w : World) (h : 4845873199050653696 < r) (h' : r ≤ 9218868437227405312) :
    Calls Try.prog 29 #[.float .f64 (W s r)] w fun e w' => e = .returned (.tuple #[.int .i64 0, .bool false]) ∧ w' = w := by
  have hb := bigB_W s r (by omega)
  rw [decide_eq_true h, decide_eq_true h'] at hb
  unfold bigB at hb
  go_enter Try.func29, Try.ntmps29
  go_wp2_with (go_at_call 53; refine (abs16 _ _).mono ?_; rintro e w' ⟨rfl, rfl⟩)
  go_ret2
  exact ⟨rfl, rfl⟩
theorem whole9_no (s : Bool) (r : Nat) (w : World) (h : r ≤ 4845873199050653696) (hm : M r % U ≠ 0) :
    Calls Try.prog 29 #[.float .f64 (W s r)] w fun e w' => e = .returned (.tuple #[.int .i64 0, .bool false]) ∧ w' = w := by
  have hb := bigB_W s r (by omega)
  rw [decide_eq_false (p := 4845873199050653696 < r) (by omega), Bool.false_and] at hb
  unfold bigB at hb
  have hv := val_inj_ofN s r h
  rw [decide_eq_true hm] at hv
  have hd := div_K h
  go_enter Try.func29, Try.ntmps29
  go_wp2_with (first | (go_at_call 53; refine (abs16 _ _).mono ?_; rintro e w' ⟨rfl, rfl⟩) | (go_at_call 55; refine (trunc18 _ _ _ (by omega) hd).mono ?_; rintro e w' ⟨rfl, rfl⟩))
  go_ret2
  exact ⟨rfl, rfl⟩
theorem whole9_yes (s : Bool) (r : Nat) (w : World) (h : r ≤ 4845873199050653696) (hm : M r % U = 0) :
    Calls Try.prog 29 #[.float .f64 (W s r)] w fun e w' => e = .returned (.tuple #[.int .i64 (sgnI s (M r / U)), .bool true]) ∧ w' = w := by
  have hb := bigB_W s r (by omega)
  rw [decide_eq_false (p := 4845873199050653696 < r) (by omega), Bool.false_and] at hb
  unfold bigB at hb
  have hv := val_inj_ofN s r h
  rw [decide_eq_false (by omega)] at hv
  have hd := div_K h
  have hc : (convert 22 2 (.float .f64 (W s r))).run Try.prog w = .ok (.int .i64 (sgnI s (M r / U))) w := run_convert_float_int (P := Try.prog) w 22 2 .f64 .i64 (W s r) _ (by kernel_rfl) (by kernel_rfl) (toInt_W s r (by omega) (by omega))
  go_enter Try.func29, Try.ntmps29
  go_wp2_with (first | (go_at_call 53; refine (abs16 _ _).mono ?_; rintro e w' ⟨rfl, rfl⟩) | (go_at_call 55; refine (trunc18 _ _ _ (by omega) hd).mono ?_; rintro e w' ⟨rfl, rfl⟩))
  go_ret2
  exact ⟨rfl, rfl⟩
end Go.Proofs.Yteompnpfoplppaa
