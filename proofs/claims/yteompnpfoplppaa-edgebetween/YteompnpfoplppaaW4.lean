import Derived.Test.YteompnpfoplppaaW3
namespace Go.Proofs.Yteompnpfoplppaa
open Go.RowKit
open Ieee
set_option linter.unusedVariables false

theorem near_dist (r : Nat) : ∃ d, d < 9218868437227405312 ∧ ((M r : Int) - ((evN r * U : Nat) : Int)).natAbs = M d ∧ 2 * M d ≤ U ∧ (M d = 0 ↔ M r % U = 0) ∧ (M r % U = 0 → evN r = M r / U) := by
  have hU := U_pos
  have h3 := Nat.div_add_mod (M r) U
  rw [Nat.mul_comm] at h3
  have hl := Nat.mod_lt (M r) hU
  unfold evN
  cases he : evenUp (M r / U) (M r % U) U
  · obtain ⟨d, h1, h2⟩ := rest_rep r
    unfold evenUp at he
    rw [Bool.or_eq_false_iff] at he
    have he1 := of_decide_eq_false he.1
    refine ⟨d, h2, ?_, by omega, by omega, fun _ => rfl⟩
    rw [h1, Bool.toNat_false, Nat.add_zero]
    generalize M r / U * U = q at *
    omega
  · have h4 : U ≤ 2 * (M r % U) := by
      unfold evenUp at he
      rw [Bool.or_eq_true, Bool.and_eq_true] at he
      rcases he with he | he
      · have := of_decide_eq_true he; omega
      · have := beq_iff_eq.1 he.1; omega
    obtain ⟨d, h1, h2⟩ := gap_rep r h4
    refine ⟨d, h2, ?_, by omega, by omega, fun h0 => by omega⟩
    rw [h1, Bool.toNat_true, Nat.add_mul, Nat.one_mul]
    generalize M r / U * U = q at *
    omega

theorem add_run (w : World) (x y r : Nat) (h : double.add x y = some r) : (binOp .add 22 (.float .f64 x) (.float .f64 y)).run Try.prog w = .ok (.float .f64 r) w :=
  run_float_arith (P := Try.prog) w .add 22 .f64 x y r h
theorem sub_run (w : World) (x y r : Nat) (h : double.sub x y = some r) : (binOp .sub 22 (.float .f64 x) (.float .f64 y)).run Try.prog w = .ok (.float .f64 r) w :=
  run_float_arith (P := Try.prog) w .sub 22 .f64 x y r h

theorem nan_chosen (s k : Nat) (hk : k < 4503599627370495) (hs : s < 2) : nanB (s * 2 ^ 63 + 0x7ff0000000000000 + 1 + k) = true := by
  have e : s * 2 ^ 63 + 0x7ff0000000000000 + 1 + k = W (s == 1) (0x7ff0000000000000 + 1 + k) := by
    have : s = 0 ∨ s = 1 := by omega
    rcases this with rfl | rfl
    · show 0 * 2 ^ 63 + 0x7ff0000000000000 + 1 + k = 0x7ff0000000000000 + 1 + k
      omega
    · show 1 * 2 ^ 63 + 0x7ff0000000000000 + 1 + k = 9223372036854775808 + (0x7ff0000000000000 + 1 + k)
      omega
  rw [e, nanB_W _ _ (by omega)]
  exact decide_eq_true (by omega)
theorem run_float_nan (op : BinOp) (hop : op = .add ∨ op = .sub ∨ op = .mul ∨ op = .quo) (t : TypeId) (x y : Nat) (w : World) (h : floatBits op .f64 x y = none) :
    ∃ r, (binOp op t (.float .f64 x) (.float .f64 y)).run Try.prog w = .ok (.float .f64 r) w.drew ∧ nanB r = true := by
  refine ⟨Question.cut (.nanBits .f64 x y) (w.tape w.drawn (.nanBits .f64 x y)), ?_, ?_⟩
  · rcases hop with rfl | rfl | rfl | rfl <;> (unfold floatBits at h; simp only at h; simp [binOp, Op.floatArith, h])
    all_goals exact fun hf => Bool.noConfusion (show false = true from hf)
  · exact nan_chosen _ _ (by omega) (by omega)

theorem fin7 (s : Bool) (r : Nat) (w : World) (h : r < 9218868437227405312) : Calls Try.prog 25 #[.float .f64 (W s r)] w fun e w' => e = .returned (.bool true) ∧ w' = w := by
  have h1 := sub_run w _ _ _ (sub_self s r h)
  have h2 : (FloatKind.f64.format.order 0 0 == some .eq) = true := by decide +kernel
  go_enter Try.func25, Try.ntmps25
  go_wp2
  go_ret
  exact ⟨rfl, rfl⟩
theorem nan_order (r y : Nat) (h : nanB r = true) : (FloatKind.f64.format.order r y == some .eq) = false := by
  unfold nanB at h
  rw [f64_format] at *
  unfold Format.order at *
  cases hr : double.read r with
  | nan n f => rfl
  | infinity s => rw [hr] at h; simp [Datum.order] at h
  | number s m i => rw [hr] at h; simp [Datum.order] at h
theorem fin7i (s : Bool) (w : World) : Calls Try.prog 25 #[.float .f64 (W s 9218868437227405312)] w fun e w' => e = .returned (.bool false) ∧ w' = w.drew := by
  obtain ⟨r, h1, h2⟩ := run_float_nan .sub (by simp) 22 (W s 9218868437227405312) (W s 9218868437227405312) w (sub_inf s)
  have h3 := nan_order r 0 h2
  go_enter Try.func25, Try.ntmps25
  go_wp2
  go_ret
  exact ⟨rfl, rfl⟩

theorem near6_not (x : Nat) (w : World) (h : finB x = false) : Calls Try.prog 28 #[.float .f64 x] w fun e w' => e = .returned (.tuple #[.int .i64 0, .float .f64 0, .int .i64 5]) ∧ w' = w := by
  go_enter Try.func28, Try.ntmps28
  go_wp2_with (go_at_call 31; refine (fin15 _ _).mono ?_; rintro e w' ⟨rfl, rfl⟩)
  go_ret3
  exact ⟨rfl, rfl⟩
theorem near6_big (x : Nat) (w : World) (h : finB x = true) (hb : bigB x = true) : Calls Try.prog 28 #[.float .f64 x] w fun e w' => e = .returned (.tuple #[.int .i64 0, .float .f64 0, .int .i64 6]) ∧ w' = w := by
  unfold bigB at hb
  go_enter Try.func28, Try.ntmps28
  go_wp2_with (first | (go_at_call 31; refine (fin15 _ _).mono ?_; rintro e w' ⟨rfl, rfl⟩) | (go_at_call 53; refine (abs16 _ _).mono ?_; rintro e w' ⟨rfl, rfl⟩))
  go_ret3
  exact ⟨rfl, rfl⟩

theorem finB_W (s : Bool) (r : Nat) (h : r < 9223372036854775808) : finB (W s r) = decide (r < 9218868437227405312) := by
  unfold finB
  rw [abs_W s r h, nanB_W s r h]
  have e : pinfB r = pinfB (W false r) := rfl
  rw [e]
  by_cases hn : 9218868437227405312 < r
  · rw [pinfB_nan false r h hn, decide_eq_true hn, decide_eq_false (by omega)]; rfl
  · rw [pinfB_W false r (by omega), decide_eq_false hn]
    by_cases hi : r = 9218868437227405312
    · rw [decide_eq_true hi, decide_eq_false (by omega)]; rfl
    · rw [decide_eq_false hi, decide_eq_true (by omega)]; rfl

theorem near_sub (s : Bool) (r d : Nat) (hr : r ≤ 4845873199050653696) (hd : d < 9218868437227405312) (h : ((M r : Int) - ((evN r * U : Nat) : Int)).natAbs = M d) :
    ∃ sg, double.sub (W s r) (W s (ofN (evN r))) = some (W sg d) := by
  obtain ⟨h1, h2, _⟩ := ofN_spec (evN r) (evN_K hr)
  refine ⟨(if val s r + val (!s) (ofN (evN r)) = 0 then s && !s else decide (val s r + val (!s) (ofN (evN r)) < 0)), ?_⟩
  · rw [sub_W s s r _ h2]
    refine add_exact s (!s) r _ d (by omega) h2 (by omega) ?_
    rw [← h, val_not]
    unfold val
    rw [h1]
    cases s <;> simp only [Bool.false_eq_true, if_false, if_true] <;> omega

theorem near6 (s : Bool) (r d : Nat) (w : World) (hr : r ≤ 4845873199050653696) (hd : d < 9218868437227405312) (h : ((M r : Int) - ((evN r * U : Nat) : Int)).natAbs = M d) :
    Calls Try.prog 28 #[.float .f64 (W s r)] w fun e w' => e = .returned (.tuple #[.int .i64 (sgnI s (evN r)), .float .f64 d, .int .i64 0]) ∧ w' = w := by
  have hc := evN_K hr
  obtain ⟨h1, h2, _⟩ := ofN_spec (evN r) hc
  have hf := finB_W s r (by omega)
  rw [decide_eq_true (by omega)] at hf
  have hb := bigB_W s r (by omega)
  rw [decide_eq_false (p := 4845873199050653696 < r) (by omega), Bool.false_and] at hb
  unfold bigB at hb
  have hround := round17 s r w (by omega) hc
  obtain ⟨sg, hsub⟩ := near_sub s r d hr hd h
  have hs := sub_run w _ _ _ hsub
  have ha := abs_W sg d (by omega)
  have hq : M (ofN (evN r)) / U = evN r := by rw [h1, Nat.mul_div_cancel _ U_pos]
  have hi : (convert 22 2 (.float .f64 (W s (ofN (evN r))))).run Try.prog w = .ok (.int .i64 (sgnI s (evN r))) w := by
    have := run_convert_float_int (P := Try.prog) w 22 2 .f64 .i64 (W s (ofN (evN r))) _ (by kernel_rfl) (by kernel_rfl) (toInt_W s (ofN (evN r)) h2 (by omega))
    rw [hq] at this
    exact this
  go_enter Try.func28, Try.ntmps28
  go_wp2_with (first | (go_at_call 31; refine (fin15 _ _).mono ?_; rintro e w' ⟨rfl, rfl⟩) | (go_at_call 53; refine (abs16 _ _).mono ?_; rintro e w' ⟨rfl, rfl⟩))
  go_ret3
  exact ⟨rfl, rfl⟩
end Go.Proofs.Yteompnpfoplppaa
