import Derived.Test.YteompnpfoplppaaD13
import Derived.Test.YteompnpfoplppaaT2
namespace Go.Proofs.Yteompnpfoplppaa
open Go.RowKit
open Ieee
set_option linter.unusedVariables false

theorem m2s (motive : Array Value → Type) (x : Nat) (h1 : (x : Nat) → motive #[.float .f64 x]) (h2 : (x : Array Value) → motive x) : Extern.MathSqrt.sqrt.match_2 motive #[.float .f64 x] h1 h2 = h1 x := rfl
theorem ext75 (x : Nat) (w : World) : (callFunc 69 #[.float .f64 x]).run Try.prog w = ((Extern.MathSqrt.sqrt #[.float .f64 x]).run Try.prog w).andThen fun v w' => .ok (.value v) w' :=
  run_callFunc_extern Try.func69 (by kernel_rfl) (by kernel_rfl) (by kernel_rfl) (by kernel_rfl) _ w
theorem sqrt75 (x r : Nat) (w : World) (h : double.sqrt x = some r) : (callFunc 69 #[.float .f64 x]).run Try.prog w = .ok (.value (.float .f64 r)) w := by
  have h1 : Extern.MathSqrt.sqrt #[.float .f64 x] = pure (.float .f64 r) := by
    unfold Extern.MathSqrt.sqrt
    have h2 : FloatKind.f64.format.sqrt x = some r := h
    rw [m2s (fun _ => Sem Value), h2]
  rw [ext75, h1]
  rfl
theorem sqrt75n (x : Nat) (w : World) (h : double.sqrt x = none) : (callFunc 69 #[.float .f64 x]).run Try.prog w = .ok (.value (.float .f64 (nanOf x x w))) w.drew := by
  have h1 : (Extern.MathSqrt.sqrt #[.float .f64 x]).run Try.prog w = .ok (.float .f64 (nanOf x x w)) w.drew := by
    unfold Extern.MathSqrt.sqrt
    have h2 : FloatKind.f64.format.sqrt x = none := h
    rw [m2s (fun _ => Sem Value), h2]
    simp only [Sem.run_bind, Sem.run_pure]
    rfl
  rw [ext75, h1]
  rfl
theorem sqrt53 (x v : Nat) (w w2 : World) (h : (callFunc 69 #[.float .f64 x]).run Try.prog w = .ok (.value (.float .f64 v)) w2) : Calls Try.prog 46 #[.float .f64 x] w fun e w' => e = .returned (.float .f64 v) ∧ w' = w2 := by
  go_enter Try.func46, Try.ntmps46
  go_wp2
  go_ret
  exact ⟨rfl, rfl⟩
theorem root54 (a r r' nr' a' o z : Nat) (e half : Int) (w : World) (h1 : -3000 ≤ e) (h2 : e ≤ 3000) (hh : e.tdiv 2 = half) (h3 : -1500 ≤ half) (h4 : half ≤ 1500)
    (hA : ∀ w, Calls Try.prog 63 #[.float .f64 a] w fun e' w' => e' = .returned (.tuple #[.float .f64 z, .int .i64 e]) ∧ w' = w)
    (hR : ∀ w, Calls Try.prog 65 #[.float .f64 r, .int .i64 (-half)] w fun e w' => e = .returned (.float .f64 r') ∧ w' = w)
    (hL : ∀ w, Calls Try.prog 65 #[.float .f64 a, .int .i64 (-2 * half)] w fun e w' => e = .returned (.float .f64 a') ∧ w' = w)
    (hq : negN r' = nr') (hf : double.fma nr' r' a' = some o) :
    Calls Try.prog 47 #[.float .f64 a, .float .f64 r] w fun e w' => e = .returned (.float .f64 o) ∧ w' = w := by
  have HA : Hid (∀ w, Calls Try.prog 63 #[.float .f64 a] w fun e' w' => e' = .returned (.tuple #[.float .f64 z, .int .i64 e]) ∧ w' = w) := hA
  have HR : Hid (∀ w, Calls Try.prog 65 #[.float .f64 r, .int .i64 (-half)] w fun e w' => e = .returned (.float .f64 r') ∧ w' = w) := hR
  have HL : Hid (∀ w, Calls Try.prog 65 #[.float .f64 a, .int .i64 (-2 * half)] w fun e w' => e = .returned (.float .f64 a') ∧ w' = w) := hL
  clear hA hR hL
  have g1 : ∀ w, (Op.unary .neg (.float .f64 r')).run Try.prog w = .ok (.float .f64 nr') w := by
    intro w; rw [← hq]; exact neg_run _ w
  have g2 := fun w => fma70 _ _ _ _ w hf
  clear hq hf
  go_enter Try.func47, Try.ntmps47
  go_wp2_with (first | (go_at_call 63; refine (HA.out _).mono ?_; rintro e w' ⟨rfl, rfl⟩) | (go_at_call 65; with_reducible refine (HR.out _).mono ?_; rintro e w' ⟨rfl, rfl⟩) | (go_at_call 65; with_reducible refine (HL.out _).mono ?_; rintro e w' ⟨rfl, rfl⟩))
  go_ret
  exact ⟨rfl, rfl⟩
theorem sqrt19 (a s o : Nat) (r : Nat) (up : Bool) (w : World) (ha : finB a = true) (h0 : negB a = false) (h0' : zeroB a = false) (h1 : double.sqrt a = some s) (hs : s = W false r) (hr : r < 9223372036854775808)
    (he : ∀ w, Calls Try.prog 47 #[.float .f64 a, .float .f64 s] w fun e w' => e = .returned (.float .f64 o) ∧ w' = w) :
    Calls Try.prog 16 #[.float .f64 a, .bool up] w fun e w' => e = .returned (.float .f64 (sideW false r o up)) ∧ w' = w := by
  have HQ : Hid (∀ w, Calls Try.prog 46 #[.float .f64 a] w fun e w' => e = .returned (.float .f64 s) ∧ w' = w) := fun w => sqrt53 a s w w (sqrt75 a s w h1)
  clear h1
  unfold negB at h0
  unfold zeroB at h0'
  have hS := fun w => side20 false r o up w hr
  rw [← hs] at hS
  have HE : Hid (∀ w, Calls Try.prog 47 #[.float .f64 a, .float .f64 s] w fun e w' => e = .returned (.float .f64 o) ∧ w' = w) := he
  have HS : Hid (∀ w, Calls Try.prog 33 #[.float .f64 s, .float .f64 o, .bool up] w fun e w' => e = .returned (.float .f64 (sideW false r o up)) ∧ w' = w) := hS
  clear he hS hs hr
  generalize sideW false r o up = res at *
  go_enter Try.func16, Try.ntmps16
  go_wp2_with (first | (go_at_call 46; refine (HQ.out _).mono ?_; rintro e w' ⟨rfl, rfl⟩) | (go_at_call 31; refine (fin15 _ _).mono ?_; rintro e w' ⟨rfl, rfl⟩) | (go_at_call 47; refine (HE.out _).mono ?_; rintro e w' ⟨rfl, rfl⟩) | (go_at_call 33; refine (HS.out _).mono ?_; rintro e w' ⟨rfl, rfl⟩))
  go_ret
  exact ⟨rfl, rfl⟩
theorem sqrt19_not (a v : Nat) (up : Bool) (w w2 : World) (h : (finB a && !negB a && !zeroB a) = false) (h1 : (callFunc 69 #[.float .f64 a]).run Try.prog w = .ok (.value (.float .f64 v)) w2) :
    Calls Try.prog 16 #[.float .f64 a, .bool up] w fun e w' => e = .returned (.float .f64 v) ∧ w' = w2 := by
  have HQ : Hid (Calls Try.prog 46 #[.float .f64 a] w fun e w' => e = .returned (.float .f64 v) ∧ w' = w2) := sqrt53 a v w w2 h1
  clear h1
  unfold negB zeroB at h
  cases ha : finB a
  · clear h
    go_enter Try.func16, Try.ntmps16
    go_wp2_with (first | (go_at_call 46; refine (HQ.out).mono ?_; rintro e w' ⟨rfl, rfl⟩) | (go_at_call 31; refine (fin15 _ _).mono ?_; rintro e w' ⟨rfl, rfl⟩))
    go_ret
    exact ⟨rfl, rfl⟩
  · cases hn : (FloatKind.f64.format.order a 0 == some .lt)
    · have hz : (FloatKind.f64.format.order a 0 == some .eq) = true := by rw [ha, hn] at h; simpa using h
      clear h
      go_enter Try.func16, Try.ntmps16
      go_wp2_with (first | (go_at_call 46; refine (HQ.out).mono ?_; rintro e w' ⟨rfl, rfl⟩) | (go_at_call 31; refine (fin15 _ _).mono ?_; rintro e w' ⟨rfl, rfl⟩))
      go_ret
      exact ⟨rfl, rfl⟩
    · clear h
      go_enter Try.func16, Try.ntmps16
      go_wp2_with (first | (go_at_call 46; refine (HQ.out).mono ?_; rintro e w' ⟨rfl, rfl⟩) | (go_at_call 31; refine (fin15 _ _).mono ?_; rintro e w' ⟨rfl, rfl⟩))
      go_ret
      exact ⟨rfl, rfl⟩
end Go.Proofs.Yteompnpfoplppaa
