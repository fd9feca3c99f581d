import Derived.Test.YteompnpfoplppaaD6
namespace Go.Proofs.Yteompnpfoplppaa
open Go.RowKit
open Ieee
set_option linter.unusedVariables false

theorem m3 (motive : Array Value → Type) (x y z : Nat) (h1 : (x y z : Nat) → motive #[.float .f64 x, .float .f64 y, .float .f64 z]) (h2 : (x : Array Value) → motive x) : Extern.MathFMA.fma.match_3 motive #[.float .f64 x, .float .f64 y, .float .f64 z] h1 h2 = h1 x y z := rfl
theorem fma70 (x y z r : Nat) (w : World) (h : double.fma x y z = some r) : (callFunc 64 #[.float .f64 x, .float .f64 y, .float .f64 z]).run Try.prog w = .ok (.value (.float .f64 r)) w := by
  have h1 : Extern.MathFMA.fma #[.float .f64 x, .float .f64 y, .float .f64 z] = pure (.float .f64 r) := by
    unfold Extern.MathFMA.fma
    have h2 : FloatKind.f64.format.fma x y z = some r := h
    rw [m3 (fun _ => Sem Value), h2]
  have h3 : (callFunc 64 #[.float .f64 x, .float .f64 y, .float .f64 z]).run Try.prog w = ((Extern.MathFMA.fma #[.float .f64 x, .float .f64 y, .float .f64 z]).run Try.prog w).andThen fun v w' => .ok (.value v) w' :=
    run_callFunc_extern Try.func64 (by kernel_rfl) (by kernel_rfl) (by kernel_rfl) (by kernel_rfl) _ w
  rw [h3, h1]
  rfl

/-- less than half of the least float comes to 0 -/
theorem nearest_tiny (neg : Bool) (mag : Nat) (place : Int) (k : Nat) (hk : 0 ≤ place + 1074 + k) (h : 2 * (mag * 2 ^ (place + 1074 + k).toNat) < 2 ^ k) : double.nearest neg mag place = W neg 0 := by
  unfold Format.nearest
  by_cases h0 : mag = 0
  · rw [if_pos h0, word_W]
  rw [if_neg h0, d_frac, d_least, d_binade, d_inf]
  simp only []
  have hl := Nat.log2_self_le h0
  have h1 : 2 ^ (mag.log2 + (place + 1074 + k).toNat + 1) < 2 ^ k := by
    refine Nat.lt_of_le_of_lt ?_ h
    rw [Nat.pow_succ, Nat.pow_add, Nat.mul_comm]
    exact Nat.mul_le_mul_left _ (Nat.mul_le_mul_right _ hl)
  have h2 := (Nat.pow_lt_pow_iff_right (by omega : 1 < 2)).1 h1
  have e1 : max (place + (mag.log2 : Int) - (52 : Nat)) (-1074) = -1074 := by omega
  rw [e1]
  have e2 : (place - -1074).toNat = 0 := by omega
  have e3 : ((-1074 : Int) - -1074).toNat = 0 := by omega
  rw [e2, e3, Nat.shiftLeft_zero, Nat.zero_mul, Nat.zero_add, cut_even]
  have h3 : 2 * mag < 2 ^ ((-1074 : Int) - place).toNat := by
    refine Nat.lt_of_mul_lt_mul_right (a := 2 ^ (place + 1074 + k).toNat) ?_
    rw [Nat.mul_assoc, ← Nat.pow_add]
    have : ((-1074 : Int) - place).toNat + (place + 1074 + k).toNat = k := by omega
    rw [this]
    exact h
  generalize 2 ^ ((-1074 : Int) - place).toNat = g at *
  have h4 : mag / g = 0 := Nat.div_eq_of_lt (by omega)
  have h5 : mag % g = mag := Nat.mod_eq_of_lt (by omega)
  rw [h4, h5]
  unfold evenUp
  rw [decide_eq_false (by omega), show (0 % 2 == 1) = false from rfl, Bool.and_false, word_W]
  rfl

theorem M_dbl {c : Nat} (h : 0 < c) : M (c + 1) ≤ 2 * M c := by
  rw [M_succ]
  have : 2 ^ ex c ≤ M c := by
    by_cases he : 0 < ex c
    · have := M_lower c he
      have := Nat.two_pow_pos (ex c)
      omega
    · have : ex c = 0 := by omega
      rw [this]
      have := M_pos h
      simp
      omega
  omega

/-- how far apart the powers may be -/
theorem mul_range (ma mb mc Pa Pb Pc N C : Nat) (ha : 4503599627370496 ≤ ma) (ha' : ma < 9007199254740992) (hb : 4503599627370496 ≤ mb) (hb' : mb < 9007199254740992) (hc : 4503599627370496 ≤ mc) (hc' : mc < 9007199254740992)
    (hN : N * 2 ^ 104 = ma * mb * 2 ^ (Pa + Pb)) (hC : C * 2 ^ 104 = mc * 2 ^ (Pc + 1126)) (h1 : N ≤ 2 * C) (h2 : C ≤ 2 * N) : Pa + Pb ≤ Pc + 1075 ∧ Pc + 1072 ≤ Pa + Pb := by
  have p52 : (4503599627370496 : Nat) = 2 ^ 52 := rfl
  have p53 : (9007199254740992 : Nat) = 2 ^ 53 := rfl
  have l1 : 2 ^ 52 * 2 ^ 52 ≤ ma * mb := Nat.mul_le_mul (by omega) (by omega)
  have l2 : ma * mb < 2 ^ 53 * 2 ^ 53 := Nat.mul_lt_mul'' (by omega) (by omega)
  rw [← Nat.pow_add] at l1 l2
  constructor
  · have q1 : 2 ^ (52 + 52 + (Pa + Pb)) < 2 ^ (1 + 53 + (Pc + 1126)) := by
      calc 2 ^ (52 + 52 + (Pa + Pb)) = 2 ^ (52 + 52) * 2 ^ (Pa + Pb) := by rw [Nat.pow_add]
        _ ≤ ma * mb * 2 ^ (Pa + Pb) := Nat.mul_le_mul_right _ l1
        _ = N * 2 ^ 104 := hN.symm
        _ ≤ 2 * C * 2 ^ 104 := Nat.mul_le_mul_right _ h1
        _ = 2 * (mc * 2 ^ (Pc + 1126)) := by rw [Nat.mul_assoc, hC]
        _ < 2 * (2 ^ 53 * 2 ^ (Pc + 1126)) := Nat.mul_lt_mul_of_pos_left (Nat.mul_lt_mul_of_pos_right (by omega) (Nat.two_pow_pos _)) (by omega)
        _ = 2 ^ (1 + 53 + (Pc + 1126)) := by rw [Nat.pow_add 2 (1 + 53), Nat.pow_add 2 1, Nat.pow_one, Nat.mul_assoc]
    have := (Nat.pow_lt_pow_iff_right (by omega : 1 < 2)).1 q1
    omega
  · have q1 : 2 ^ (52 + (Pc + 1126)) < 2 ^ (1 + (53 + 53) + (Pa + Pb)) := by
      calc 2 ^ (52 + (Pc + 1126)) = 2 ^ 52 * 2 ^ (Pc + 1126) := by rw [Nat.pow_add]
        _ ≤ mc * 2 ^ (Pc + 1126) := Nat.mul_le_mul_right _ (by omega)
        _ = C * 2 ^ 104 := hC.symm
        _ ≤ 2 * N * 2 ^ 104 := Nat.mul_le_mul_right _ h2
        _ = 2 * (ma * mb * 2 ^ (Pa + Pb)) := by rw [Nat.mul_assoc, hN]
        _ < 2 * (2 ^ (53 + 53) * 2 ^ (Pa + Pb)) := Nat.mul_lt_mul_of_pos_left (Nat.mul_lt_mul_of_pos_right l2 (Nat.two_pow_pos _)) (by omega)
        _ = 2 ^ (1 + (53 + 53) + (Pa + Pb)) := by rw [Nat.pow_add 2 (1 + (53 + 53)), Nat.pow_add 2 1, Nat.pow_one, Nat.mul_assoc]
    have := (Nat.pow_lt_pow_iff_right (by omega : 1 < 2)).1 q1
    omega

theorem prod49 (a b p fa fb q nq o : Nat) (ea eb : Int) (w : World) (h1 : -3000 ≤ ea) (h2 : ea ≤ 3000) (h3 : -3000 ≤ eb) (h4 : eb ≤ 3000)
    (hA : ∀ w, Calls Try.prog 63 #[.float .f64 a] w fun e w' => e = .returned (.tuple #[.float .f64 fa, .int .i64 ea]) ∧ w' = w)
    (hB : ∀ w, Calls Try.prog 63 #[.float .f64 b] w fun e w' => e = .returned (.tuple #[.float .f64 fb, .int .i64 eb]) ∧ w' = w)
    (hQ : ∀ w, Calls Try.prog 65 #[.float .f64 p, .int .i64 (-ea - eb)] w fun e w' => e = .returned (.float .f64 q) ∧ w' = w)
    (hq : negN q = nq) (hf : double.fma fa fb nq = some o) :
    Calls Try.prog 42 #[.float .f64 a, .float .f64 b, .float .f64 p] w fun e w' => e = .returned (.float .f64 o) ∧ w' = w := by
  have HA : Hid (∀ w, Calls Try.prog 63 #[.float .f64 a] w fun e w' => e = .returned (.tuple #[.float .f64 fa, .int .i64 ea]) ∧ w' = w) := hA
  have HB : Hid (∀ w, Calls Try.prog 63 #[.float .f64 b] w fun e w' => e = .returned (.tuple #[.float .f64 fb, .int .i64 eb]) ∧ w' = w) := hB
  have HQ : Hid (∀ w, Calls Try.prog 65 #[.float .f64 p, .int .i64 (-ea - eb)] w fun e w' => e = .returned (.float .f64 q) ∧ w' = w) := hQ
  clear hA hB hQ
  have g1 : ∀ w, (Op.unary .neg (.float .f64 q)).run Try.prog w = .ok (.float .f64 nq) w := by
    intro w; rw [← hq]; exact neg_run _ w
  have g2 := fun w => fma70 _ _ _ _ w hf
  clear hq hf
  go_enter Try.func42, Try.ntmps42
  go_wp2_with (first | (go_at_call 63; with_reducible refine (HA.out _).mono ?_; rintro e w' ⟨rfl, rfl⟩) | (go_at_call 63; with_reducible refine (HB.out _).mono ?_; rintro e w' ⟨rfl, rfl⟩) | (go_at_call 65; refine (HQ.out _).mono ?_; rintro e w' ⟨rfl, rfl⟩))
  go_ret
  exact ⟨rfl, rfl⟩
end Go.Proofs.Yteompnpfoplppaa
