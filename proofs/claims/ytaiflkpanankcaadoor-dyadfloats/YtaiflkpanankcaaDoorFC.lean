import Derived.Test.YtaiflkpanankcaaDoorM1
namespace Go.Proofs.YtaiflkpanankcaaDoor.Fl
open Go.RowKit
open Ieee
set_option linter.unusedVariables false

theorem inf51p (w : World) : Calls Tryd.prog 51 #[.int .i64 1] w fun e w' => e = .returned (.float .f64 9218868437227405312) ∧ w' = w := by
  have b2 := from13
  go_enter Tryd.func51, Tryd.ntmps51
  go_wp2
  go_ret
  exact ⟨rfl, rfl⟩
theorem inf51m (w : World) : Calls Tryd.prog 51 #[.int .i64 (-1)] w fun e w' => e = .returned (.float .f64 18442240474082181120) ∧ w' = w := by
  have b2 := from13
  go_enter Tryd.func51, Tryd.ntmps51
  go_wp2
  go_ret
  exact ⟨rfl, rfl⟩
/-- Ldexp into the subnormal numbers -/
theorem ldexp87s (x f z y v : Nat) (e k E S : Int) (w : World) (h0 : zeroB x = false) (h1 : pinfB (absN x) = false) (h2 : nanB x = false)
    (hn : ∀ w, Calls Tryd.prog 81 #[.float .f64 x] w fun e w' => e = .returned (.tuple #[.float .f64 f, .int .i64 k]) ∧ w' = w) (he1 : -5000 ≤ e) (he2 : e ≤ 50000) (hk1 : -52 ≤ k) (hk2 : k ≤ 0)
    (hE : bits BinOp.and IntKind.i64 (wrap64 (↑f / 4503599627370496)) 2047 = E) (hE1 : 0 ≤ E) (hE2 : E ≤ 2047) (hS : e + k + (E - 1023) = S) (hS1 : -1075 ≤ S) (hS2 : S < -1022)
    (hc : bits BinOp.andNot IntKind.u64 (f : Int) 9218868437227405312 = (y : Int)) (hp : bits BinOp.or IntKind.u64 (y : Int) ((S + 53 + 1023) * 4503599627370496) = (z : Int)) (hr : double.mul 4368491638549381120 z = some v) :
    Calls Tryd.prog 67 #[.float .f64 x, .int .i64 e] w fun e w' => e = .returned (.float .f64 v) ∧ w' = w := by
  have g := mul_run w _ _ _ hr
  clear hr
  unfold zeroB at h0
  have b1 := bits14
  have b2 := from13
  have HN : Hid (∀ w, Calls Tryd.prog 81 #[.float .f64 x] w fun e w' => e = .returned (.tuple #[.float .f64 f, .int .i64 k]) ∧ w' = w) := hn
  clear hn
  subst hS
  go_enter Tryd.func67, Tryd.ntmps67
  go_wp2_with (first | (go_at_call 44; refine (inf12z _ _).mono ?_; rintro e w' ⟨rfl, rfl⟩) | (go_at_call 43; refine (nan11 _ _).mono ?_; rintro e w' ⟨rfl, rfl⟩) | (go_at_call 81; refine (HN.out _).mono ?_; rintro e w' ⟨rfl, rfl⟩))
  go_ret
  exact ⟨rfl, rfl⟩
/-- Ldexp above all floats -/
theorem ldexp87o (x f : Nat) (e k E S : Int) (w : World) (h0 : zeroB x = false) (h1 : pinfB (absN x) = false) (h2 : nanB x = false) (hl : (FloatKind.f64.format.order f 0 == some .lt) = false)
    (hn : ∀ w, Calls Tryd.prog 81 #[.float .f64 x] w fun e w' => e = .returned (.tuple #[.float .f64 f, .int .i64 k]) ∧ w' = w) (he1 : -5000 ≤ e) (he2 : e ≤ 50000) (hk1 : -52 ≤ k) (hk2 : k ≤ 0)
    (hE : bits BinOp.and IntKind.i64 (wrap64 (↑f / 4503599627370496)) 2047 = E) (hE1 : 0 ≤ E) (hE2 : E ≤ 2047) (hS : e + k + (E - 1023) = S) (hS1 : 1023 < S) :
    Calls Tryd.prog 67 #[.float .f64 x, .int .i64 e] w fun e w' => e = .returned (.float .f64 9218868437227405312) ∧ w' = w := by
  unfold zeroB at h0
  have b1 := bits14
  have b2 := from13
  have HN : Hid (∀ w, Calls Tryd.prog 81 #[.float .f64 x] w fun e w' => e = .returned (.tuple #[.float .f64 f, .int .i64 k]) ∧ w' = w) := hn
  clear hn
  subst hS
  go_enter Tryd.func67, Tryd.ntmps67
  go_wp2_with (first | (go_at_call 44; refine (inf12z _ _).mono ?_; rintro e w' ⟨rfl, rfl⟩) | (go_at_call 43; refine (nan11 _ _).mono ?_; rintro e w' ⟨rfl, rfl⟩) | (go_at_call 81; refine (HN.out _).mono ?_; rintro e w' ⟨rfl, rfl⟩) | (go_at_call 51; refine (inf51p _).mono ?_; rintro e w' ⟨rfl, rfl⟩))
  go_ret
  exact ⟨rfl, rfl⟩
end Go.Proofs.YtaiflkpanankcaaDoor.Fl
