import Derived.Test.YtbkkpbffdnhidaaGreatDoorM11
import Derived.Test.YtbkkpbffdnhidaaGreatDoorM06
namespace Go.Proofs.YtbkkpbffdnhidaaGreatDoor
open Go.RowKit
set_option linter.unusedVariables false

open Ieee in
theorem mul_run (w : World) (x y r : Nat) (h : double.mul x y = some r) : (binOp .mul 36 (.float .f64 x) (.float .f64 y)).run Tryz.prog w = .ok (.float .f64 r) w :=
  run_float_arith (P := Tryz.prog) w .mul 36 .f64 x y r h
def nanB (x : Nat) : Bool := (FloatKind.f64.format.order x x != some .eq)
def absN (x : Nat) : Nat := (bits BinOp.andNot IntKind.u64 x 9223372036854775808).toNat
def pinfB (x : Nat) : Bool := FloatKind.f64.format.order x 9218868437227405311 == some .gt
def copyN (x y : Nat) : Nat := (bits BinOp.or IntKind.u64 (bits BinOp.andNot IntKind.u64 x 9223372036854775808) (bits BinOp.and IntKind.u64 y 9223372036854775808)).toNat
theorem fbits50 (x : Nat) (w : World) : (callFunc 94 #[.float .f64 x]).run Tryz.prog w = .ok (.value (.int .u64 x)) w := by
  kernel_rfl
theorem from68 (x : Int) (w : World) : (callFunc 93 #[.int .u64 x]).run Tryz.prog w = .ok (.value (.float .f64 x.toNat)) w := by
  kernel_rfl
theorem nan43 (x : Nat) (w : World) : Calls Tryz.prog 56 #[.float .f64 x] w fun e w' => e = .returned (.bool (nanB x)) ∧ w' = w := by
  go_enter Tryz.func56, Tryz.ntmps56
  go_wp2
  go_ret
  exact ⟨rfl, rfl⟩
theorem abs47 (x : Nat) (w : World) : Calls Tryz.prog 58 #[.float .f64 x] w fun e w' => e = .returned (.float .f64 (absN x)) ∧ w' = w := by
  have h1 := fbits50
  have h2 := from68
  go_enter Tryz.func58, Tryz.ntmps58
  go_wp2
  go_ret
  exact ⟨rfl, rfl⟩
theorem inf44 (x : Nat) (w : World) : Calls Tryz.prog 52 #[.float .f64 x, .int .i64 0] w fun e w' => e = .returned (.bool (pinfB (absN x))) ∧ w' = w := by
  go_enter Tryz.func52, Tryz.ntmps52
  go_wp2_with (go_at_call 58; refine (abs47 _ _).mono ?_; rintro e w' ⟨rfl, rfl⟩)
  go_ret
  exact ⟨rfl, rfl⟩
theorem copy49 (x y : Nat) (w : World) : Calls Tryz.prog 53 #[.float .f64 x, .float .f64 y] w fun e w' => e = .returned (.float .f64 (copyN x y)) ∧ w' = w := by
  have h1 := fbits50
  have h2 := from68
  go_enter Tryz.func53, Tryz.ntmps53
  go_wp2
  go_ret
  exact ⟨rfl, rfl⟩
theorem norm81 (x : Nat) (w : World) (h : (FloatKind.f64.format.order (absN x) 4503599627370496 == some .lt) = false) :
    Calls Tryz.prog 138 #[.float .f64 x] w fun e w' => e = .returned (.tuple #[.float .f64 x, .int .i64 0]) ∧ w' = w := by
  go_enter Tryz.func138, Tryz.ntmps138
  go_wp2_with (go_at_call 58; refine (abs47 _ _).mono ?_; rintro e w' ⟨rfl, rfl⟩)
  go_ret2
  exact ⟨rfl, rfl⟩
theorem ldexp67 (x f z y : Nat) (e k E S : Int) (w : World) (h0 : (FloatKind.f64.format.order x 0 == some .eq) = false) (h1 : pinfB (absN x) = false) (h2 : nanB x = false)
    (hn : ∀ w, Calls Tryz.prog 138 #[.float .f64 x] w fun e w' => e = .returned (.tuple #[.float .f64 f, .int .i64 k]) ∧ w' = w) (he1 : -5000 ≤ e) (he2 : e ≤ 5000) (hk1 : -52 ≤ k) (hk2 : k ≤ 0)
    (hE : bits BinOp.and IntKind.i64 (wrap64 (↑f / 4503599627370496)) 2047 = E) (hE1 : 0 ≤ E) (hE2 : E ≤ 2047) (hS : e + k + (E - 1023) = S) (hS1 : -1022 ≤ S) (hS2 : S ≤ 1023)
    (hc : bits BinOp.andNot IntKind.u64 (f : Int) 9218868437227405312 = (y : Int)) (hp : bits BinOp.or IntKind.u64 (y : Int) ((S + 1023) * 4503599627370496) = (z : Int)) (hr : Ieee.double.mul 4607182418800017408 z = some z) :
    Calls Tryz.prog 91 #[.float .f64 x, .int .i64 e] w fun e w' => e = .returned (.float .f64 z) ∧ w' = w := by
  have g := mul_run w _ _ _ hr
  clear hr
  have b1 := fbits50
  have b2 := from68
  have HN : Hid (∀ w, Calls Tryz.prog 138 #[.float .f64 x] w fun e w' => e = .returned (.tuple #[.float .f64 f, .int .i64 k]) ∧ w' = w) := hn
  clear hn
  subst hS
  go_enter Tryz.func91, Tryz.ntmps91
  go_wp2_with (first | (go_at_call 52; refine (inf44 _ _).mono ?_; rintro e w' ⟨rfl, rfl⟩) | (go_at_call 56; refine (nan43 _ _).mono ?_; rintro e w' ⟨rfl, rfl⟩) | (go_at_call 138; refine (HN.out _).mono ?_; rintro e w' ⟨rfl, rfl⟩))
  go_ret
  exact ⟨rfl, rfl⟩
theorem ldexp46 (x z : Nat) (e : Int) (w : World) (h : ∀ w, Calls Tryz.prog 91 #[.float .f64 x, .int .i64 e] w fun e w' => e = .returned (.float .f64 z) ∧ w' = w) :
    Calls Tryz.prog 50 #[.float .f64 x, .int .i64 e] w fun e w' => e = .returned (.float .f64 z) ∧ w' = w := by
  have H : Hid (∀ w, Calls Tryz.prog 91 #[.float .f64 x, .int .i64 e] w fun e w' => e = .returned (.float .f64 z) ∧ w' = w) := h
  clear h
  go_enter Tryz.func50, Tryz.ntmps50
  go_wp2_with (go_at_call 91; refine (H.out _).mono ?_; rintro e w' ⟨rfl, rfl⟩)
  go_ret
  exact ⟨rfl, rfl⟩
theorem ldexpC (w : World) : Calls Tryz.prog 50 #[.float .f64 4843621399236968448, .int .i64 (-52)] w fun e w' => e = .returned (.float .f64 4609434218613702656) ∧ w' = w :=
  ldexp46 _ _ _ w fun w => ldexp67 4843621399236968448 4843621399236968448 4609434218613702656 2251799813685248 (-52) 0 1075 0 w (by decide +kernel) (by decide +kernel) (by decide +kernel) (fun w => norm81 _ w (by decide +kernel)) (by omega) (by omega) (by omega) (by omega) (by decide +kernel) (by omega) (by omega) (by omega) (by omega) (by omega) (by decide +kernel) (by decide +kernel) (by decide +kernel)
theorem isInfC (w : World) : Calls Tryz.prog 52 #[.float .f64 4609434218613702656, .int .i64 0] w fun e w' => e = .returned (.bool false) ∧ w' = w := by
  have := inf44 4609434218613702656 w
  rw [show pinfB (absN 4609434218613702656) = false by decide +kernel] at this
  exact this
theorem copysignC (w : World) : Calls Tryz.prog 53 #[.float .f64 4609434218613702656, .float .f64 13830554455654793216] w fun e w' => e = .returned (.float .f64 13832806255468478464) ∧ w' = w := by
  have := copy49 4609434218613702656 13830554455654793216 w
  rw [show copyN 4609434218613702656 13830554455654793216 = 13832806255468478464 by decide +kernel] at this
  exact this
set_option maxHeartbeats 800000 in
theorem nearest3 (ad : Option Addr) (cap : Nat) (w : World) (hx : Lim w ad 1 cap 18446744073709551616 3) :
    Calls Tryz.prog 51 #[.slice ad 1 cap, .int .i64 (-51)] w fun r w' => r = .returned (.int .u64 6755399441055744) ∧ Gr w w' := by
  have H42 : Hid (Calls Tryz.prog 80 #[.slice ad 1 cap, .int .i64 51] w fun r w' => ∃ p o cap', r = .returned (.slice (some ⟨p, o, none⟩) 1 cap') ∧ 1 ≤ cap' ∧ cap' ≤ 9223372036854775807 ∧ w'.cell? ⟨p, o, none⟩ = some (.int .u64 6755399441055744) ∧ Gr w w') := by
    refine (shift42 ad 1 cap 3 51 w hx (by omega) (by omega)).mono ?_
    rintro r w' ⟨a, n, c, rfl, h2, h3, h4⟩
    have h3 : Lim w' a n c 18446744073709551616 6755399441055744 := h3
    obtain rfl : n = 1 := lim_one h3 (by omega) (by omega)
    obtain ⟨xs, rx, dx⟩ := h3
    obtain ⟨v, rfl⟩ : ∃ v, xs = [v] := by
      have := rx.len
      match xs, this with
      | [v], _ => exact ⟨v, rfl⟩
    have hv : v = 6755399441055744 := by have := dx.1; simpa [nv] using this
    subst hv
    obtain ⟨p1, o1, rfl, hp1, hc1⟩ := rx.cells (by omega)
    have hc0 := hc1 0 (by omega)
    exact ⟨p1, o1, c, rfl, rx.le, rx.max, hc0, h4⟩
  clear hx
  go_enter Tryz.func51, Tryz.ntmps51
  go_wp2_with (go_at_call 80; (with_reducible refine H42.out.mono ?_); rintro r w1 ⟨p, o, c1, rfl, hc, hm, hcell, g1⟩)
  go_ret
  exact ⟨rfl, g1⟩
theorem keep4 {W wo wn : World} {p : Nat} {a0 a1 a2 : Value} (g : Gr wo wn) (h : (wo.cell? ⟨p, 0, none⟩ = some a0 ∧ wo.cell? ⟨p, 1, none⟩ = some a1 ∧ wo.cell? ⟨p, 2, none⟩ = some a2) ∧ Gr W wo) :
    (wn.cell? ⟨p, 0, none⟩ = some a0 ∧ wn.cell? ⟨p, 1, none⟩ = some a1 ∧ wn.cell? ⟨p, 2, none⟩ = some a2) ∧ Gr W wn :=
  ⟨⟨g.keep h.1.1, g.keep h.1.2.1, g.keep h.1.2.2⟩, h.2.trans g⟩
set_option maxHeartbeats 1600000 in
/-- Float, of -3/2 -/
theorem float3 (ad : Option Addr) (cap : Nat) (w : World) (hx : Lim w ad 1 cap 18446744073709551616 3) :
    Calls Tryz.prog 15 #[.agg #[.bool true, .slice ad 1 cap, .int .i64 (-1)]] w fun r w' => r = .returned (.tuple #[.float .f64 13832806255468478464, .int .i64 0]) ∧ Gr w w' := by
  have dx : DyAt w true ad 1 cap (-1) 3 := ⟨hx, by omega, Or.inr ⟨1, rfl, by omega, by omega⟩⟩
  have R := dx.r26
  have H40 : Hid (∀ w1, Gr w w1 → Calls Tryz.prog 49 #[.slice ad 1 cap] w1 fun r w' => r = .returned (.int .i64 2) ∧ Gr w1 w') := fun w1 g => by
    have := bitLength40 ad 1 cap 3 w1 (hx.gr g) (by omega) (by omega)
    rw [show bl 3 = 2 from bl_unique (by decide) (by decide)] at this
    exact this
  have H48 : Hid (∀ w1, Gr w w1 → Calls Tryz.prog 51 #[.slice ad 1 cap, .int .i64 (-51)] w1 fun r w' => r = .returned (.int .u64 6755399441055744) ∧ Gr w1 w') := fun w1 g => nearest3 ad cap w1 (hx.gr g)
  have A46 : Hid (∀ w, Calls Tryz.prog 50 #[.float .f64 (floatOfInt FloatKind.f64 6755399441055744), .int .i64 (-52)] w fun e w' => e = .returned (.float .f64 4609434218613702656) ∧ w' = w) := by
    rw [show floatOfInt FloatKind.f64 6755399441055744 = 4843621399236968448 by decide +kernel]
    exact ldexpC
  have A44 : Hid (∀ w, Calls Tryz.prog 52 #[.float .f64 4609434218613702656, .int .i64 0] w fun e w' => e = .returned (.bool false) ∧ w' = w) := isInfC
  have A49 : Hid (∀ w, Calls Tryz.prog 53 #[.float .f64 4609434218613702656, .float .f64 13830554455654793216] w fun e w' => e = .returned (.float .f64 13832806255468478464) ∧ w' = w) := copysignC
  clear hx dx
  go_enter Tryz.func15, Tryz.ntmps15
  go_wp2_with (first | (go_at_call 44; (with_reducible refine (R.out _ ((Gr.refl w).alloc _)).mono ?_); rintro r w1 ⟨rfl, g1⟩; have k0 : w1.cell? ⟨w.heap.size, 0, none⟩ = some (.bool true) := g1.keep (by simp); have k1 : w1.cell? ⟨w.heap.size, 1, none⟩ = some (.slice ad 1 cap) := g1.keep (by simp); have k2 : w1.cell? ⟨w.heap.size, 2, none⟩ = some (.int .i64 (-1)) := g1.keep (by simp); have G1 := ((Gr.refl w).alloc (.cells #[.bool true, .slice ad 1 cap, .int .i64 (-1)] 24)).trans g1))
  have hS0 : (w1.drew.cell? ⟨w.heap.size, 0, none⟩ = some (.bool true) ∧ w1.drew.cell? ⟨w.heap.size, 1, none⟩ = some (.slice ad 1 cap) ∧ w1.drew.cell? ⟨w.heap.size, 2, none⟩ = some (.int .i64 (-1))) ∧ Gr w w1.drew := ⟨⟨k0, k1, k2⟩, G1.drew⟩
  clear k0 k1 k2 g1 G1
  go_region_held3 (fun w' => (w'.cell? ⟨w.heap.size, 0, none⟩ = some (.bool true) ∧ w'.cell? ⟨w.heap.size, 1, none⟩ = some (.slice ad 1 cap) ∧ w'.cell? ⟨w.heap.size, 2, none⟩ = some (.int .i64 (-1))) ∧ Gr w w') (first | (with_reducible assumption) | (apply keep4; (with_reducible assumption); (with_reducible assumption))) (first | (go_at_call 49; (with_reducible refine (H40.out _ ?gg).mono ?_); (case gg => exact And.right ‹_ ∧ Gr w _›); rintro r w2 ⟨rfl, g2⟩))
  rw [show max (IntKind.i64.wrap (IntKind.i64.wrap 1 - 53)) (-1074) = -52 by decide +kernel]
  have hS1 := keep4 g2 hS0
  clear hS0 g2
  have k0 := hS1.1.1
  have k1 := hS1.1.2.1
  have k2 := hS1.1.2.2
  have G2 := hS1.2
  go_wp2_with (first | (go_at_call 51; (with_reducible refine (H48.out _ G2).mono ?_); rintro r w3 ⟨rfl, g3⟩; have j0 := g3.keep k0) | (go_at_call 50; (with_reducible refine (A46.out _).mono ?_); rintro r w4 ⟨rfl, rfl⟩) | (go_at_call 52; (with_reducible refine (A44.out _).mono ?_); rintro r w4 ⟨rfl, rfl⟩) | (go_at_call 53; (with_reducible refine (A49.out _).mono ?_); rintro r w4 ⟨rfl, rfl⟩))
  refine bodyPost_ret (v := .tuple #[.float .f64 13832806255468478464, .int .i64 0]) (by simp [results, Tryz.results15, go_sem]) rfl ⟨rfl, G2.trans g3⟩
end Go.Proofs.YtbkkpbffdnhidaaGreatDoor
namespace Go.Proofs.YtbkkpbffdnhidaaGreatDoor
open Go.RowKit
set_option linter.unusedVariables false

theorem one_is : sv KK false 3 (-2) + sv KK false 1 (-2) = sv KK false 1 0 := by
  have hk := KK_eq
  have h1 := plus_same (K := KK) (s := false) (m := 3) (n := 1) (e := -2) (f := -2) (by omega) (by omega)
  have h2 := sv_down KK false 1 0 (-2) (by omega) (by omega)
  rw [← h1, ← h2]
  rfl
theorem box_cells {w : World} {a0 a1 a2 : Value} : (w.alloc (.cells #[a0, a1, a2] 24)).cell? ⟨w.heap.size, 0, none⟩ = some a0 ∧ (w.alloc (.cells #[a0, a1, a2] 24)).cell? ⟨w.heap.size, 1, none⟩ = some a1 ∧ (w.alloc (.cells #[a0, a1, a2] 24)).cell? ⟨w.heap.size, 2, none⟩ = some a2 := ⟨by simp, by simp, by simp⟩
set_option maxHeartbeats 3200000 in
theorem awake7 (w : World) (hT : TabAt 1 Lib.deBruijn64tab w) :
    Calls Tryz.prog 6 #[] w fun r w' => r = .returned (.bool true) ∧ Gr w w' := by
  have A1 : Hid (∀ w1, Calls Tryz.prog 34 #[.bool false, .int .u64 3, .int .i64 (-2)] w1 fun r w' => ∃ ad cap, r = .returned (.agg #[.bool false, .slice ad 1 cap, .int .i64 (-2)]) ∧ Lim w' ad 1 cap 18446744073709551616 3 ∧ Gr w1 w') := fun w1 => small19 false 3 (-2) w1 (by omega) (by omega)
  have A2 : Hid (∀ w1, Calls Tryz.prog 34 #[.bool false, .int .u64 1, .int .i64 (-2)] w1 fun r w' => ∃ ad cap, r = .returned (.agg #[.bool false, .slice ad 1 cap, .int .i64 (-2)]) ∧ Lim w' ad 1 cap 18446744073709551616 1 ∧ Gr w1 w') := fun w1 => small19 false 1 (-2) w1 (by omega) (by omega)
  have A3 : Hid (∀ w1, Calls Tryz.prog 34 #[.bool false, .int .u64 1, .int .i64 1] w1 fun r w' => ∃ ad cap, r = .returned (.agg #[.bool false, .slice ad 1 cap, .int .i64 1]) ∧ Lim w' ad 1 cap 18446744073709551616 1 ∧ Gr w1 w') := fun w1 => small19 false 1 1 w1 (by omega) (by omega)
  have A4 : Hid (∀ w1, Calls Tryz.prog 34 #[.bool true, .int .u64 3, .int .i64 (-1)] w1 fun r w' => ∃ ad cap, r = .returned (.agg #[.bool true, .slice ad 1 cap, .int .i64 (-1)]) ∧ Lim w' ad 1 cap 18446744073709551616 3 ∧ Gr w1 w') := fun w1 => small19 true 3 (-1) w1 (by omega) (by omega)
  have A5 : Hid (∀ w1, Calls Tryz.prog 34 #[.bool false, .int .u64 1, .int .i64 0] w1 fun r w' => ∃ ad cap, r = .returned (.agg #[.bool false, .slice ad 1 cap, .int .i64 0]) ∧ Lim w' ad 1 cap 18446744073709551616 1 ∧ Gr w1 w') := fun w1 => small19 false 1 0 w1 (by omega) (by omega)
  have A6 : Hid (∀ w1, Calls Tryz.prog 34 #[.bool false, .int .u64 23, .int .i64 (-4)] w1 fun r w' => ∃ ad cap, r = .returned (.agg #[.bool false, .slice ad 1 cap, .int .i64 (-4)]) ∧ Lim w' ad 1 cap 18446744073709551616 23 ∧ Gr w1 w') := fun w1 => small19 false 23 (-4) w1 (by omega) (by omega)
  have AD : Hid (∀ a1 c1 a2 c2 w1, Gr w w1 → Lim w1 a1 1 c1 18446744073709551616 3 → Lim w1 a2 1 c2 18446744073709551616 1 → Calls Tryz.prog 9 #[.agg #[.bool false, .slice a1 1 c1, .int .i64 (-2)], .agg #[.bool false, .slice a2 1 c2, .int .i64 (-2)]] w1 fun r w' => ∃ s' ad n cap e', r = .returned (.tuple #[.agg #[.bool s', .slice ad n cap, .int .i64 e'], .int .i64 0]) ∧ Hid (DyV w' s' ad n cap e' (sv KK false 1 0)) ∧ Gr w1 w') := fun a1 c1 a2 c2 w1 g h1 h2 => by
    have := addG false false a1 a2 1 1 c1 c2 (-2) (-2) _ _ w1 20000 42560 ⟨3, ⟨h1, by omega, Or.inr ⟨1, rfl, by omega, by omega⟩⟩, rfl⟩ ⟨1, ⟨h2, by omega, Or.inr ⟨0, rfl, by omega, by omega⟩⟩, rfl⟩ (tab_gr hT g) (gd_of (n := 2) (by decide) (by omega) (by omega) (by omega)) (gd_of (n := 2) (by decide) (by omega) (by omega) (by omega)) (by omega) (by omega)
    rw [one_is] at this
    exact this
  have RT : Hid (∀ a1 c1 w1, Gr w w1 → Lim w1 a1 1 c1 18446744073709551616 1 → Calls Tryz.prog 35 #[.agg #[.bool false, .slice a1 1 c1, .int .i64 1], .int .i64 (-4), .bool true] w1 fun r w' => ∃ s' ad n cap e', r = .returned (.tuple #[.agg #[.bool s', .slice ad n cap, .int .i64 e'], .int .i64 0]) ∧ Hid (DyV w' s' ad n cap e' (sv KK false 23 (-4))) ∧ Gr w1 w') := fun a1 c1 w1 g h1 => root2 a1 c1 w1 h1 (tab_gr hT g)
  have FL : Hid (∀ a1 c1 w1, Lim w1 a1 1 c1 18446744073709551616 3 → Calls Tryz.prog 15 #[.agg #[.bool true, .slice a1 1 c1, .int .i64 (-1)]] w1 fun r w' => r = .returned (.tuple #[.float .f64 13832806255468478464, .int .i64 0]) ∧ Gr w1 w') := fun a1 c1 w1 h1 => float3 a1 c1 w1 h1
  clear hT
  have F1 : (FloatKind.f64.format.order 13832806255468478464 13832806255468478464 == some .eq) = true := by decide +kernel
  go_enter Tryz.func6, Tryz.ntmps6
  go_wp2_with (first | (go_at_call 34; (with_reducible refine (A1.out _).mono ?_); rintro r w1 ⟨ad1, k1, rfl, l1, g1⟩) | (go_at_call 34; (with_reducible refine (A2.out _).mono ?_); rintro r w2 ⟨ad2, k2, rfl, l2, g2⟩; have l1' := l1.gr g2) | (go_at_call 9; (with_reducible refine (AD.out _ _ _ _ _ (g1.trans g2) l1' l2).mono ?_); rintro r w3 ⟨s1, a1, n1, c1, e1, rfl, D1, g3⟩; have G3 := (((g1.trans g2).trans g3).alloc (.cells #[.bool s1, .slice a1 n1 c1, .int .i64 e1] 24)); clear g1 g2 g3 l1 l2 l1'; have D1' := D1.out.gr ((Gr.refl w3).alloc (.cells #[.bool s1, .slice a1 n1 c1, .int .i64 e1] 24)); have B1 : Hid _ := box_cells (w := w3) (a0 := .bool s1) (a1 := .slice a1 n1 c1) (a2 := .int .i64 e1)) | (go_at_call 34; (with_reducible refine (A3.out _).mono ?_); rintro r w4 ⟨ad4, k4, rfl, l4, g4⟩) | (go_at_call 35; (with_reducible refine (RT.out _ _ _ (G3.trans g4) l4).mono ?_); rintro r w5 ⟨s2, a2, n2, c2, e2, rfl, D2, g5⟩; have G5 := ((g4.trans g5).alloc (.cells #[.bool s2, .slice a2 n2 c2, .int .i64 e2] 24)); clear g4 g5 l4; have D2' := D2.out.gr ((Gr.refl w5).alloc (.cells #[.bool s2, .slice a2 n2 c2, .int .i64 e2] 24)); have B2 : Hid _ := box_cells (w := w5) (a0 := .bool s2) (a1 := .slice a2 n2 c2) (a2 := .int .i64 e2)) | (go_at_call 34; (with_reducible refine (A4.out _).mono ?_); rintro r w6 ⟨ad6, k6, rfl, l6, g6⟩) | (go_at_call 15; (with_reducible refine (FL.out _ _ _ l6).mono ?_); rintro r w7 ⟨rfl, g7⟩))
  have DA : Hid (DyV w7 s1 a1 n1 c1 e1 (sv KK false 1 0)) := ((D1'.gr G5).gr g6).gr g7
  have DB : Hid (DyV w7 s2 a2 n2 c2 e2 (sv KK false 23 (-4))) := (D2'.gr g6).gr g7
  have G7 : Hid (Gr w w7) := ((G3.trans G5).trans g6).trans g7
  have hS0 : (w7.drew.cell? ⟨w3.heap.size, 0, none⟩ = some (.bool s1) ∧ w7.drew.cell? ⟨w3.heap.size, 1, none⟩ = some (.slice a1 n1 c1) ∧ w7.drew.cell? ⟨w3.heap.size, 2, none⟩ = some (.int .i64 e1) ∧ w7.drew.cell? ⟨w5.heap.size, 0, none⟩ = some (.bool s2) ∧ w7.drew.cell? ⟨w5.heap.size, 1, none⟩ = some (.slice a2 n2 c2) ∧ w7.drew.cell? ⟨w5.heap.size, 2, none⟩ = some (.int .i64 e2)) ∧ Gr w7 w7.drew :=
    ⟨⟨g7.keep (g6.keep (G5.keep B1.out.1)), g7.keep (g6.keep (G5.keep B1.out.2.1)), g7.keep (g6.keep (G5.keep B1.out.2.2)), g7.keep (g6.keep B2.out.1), g7.keep (g6.keep B2.out.2.1), g7.keep (g6.keep B2.out.2.2)⟩, (Gr.refl w7).drew⟩
  clear D1 D2 D1' D2' B1 B2 l6 g6 g7 G3 G5 A1 A2 A3 A4 AD RT FL
  generalize w3.heap.size = pa at *
  generalize w5.heap.size = pb at *
  have I1 : Hid (∀ a4 c4 w1, Gr w7 w1 → Lim w1 a4 1 c4 18446744073709551616 1 → Calls Tryz.prog 36 #[.agg #[.bool s1, .slice a1 n1 c1, .int .i64 e1], .int .i64 0, .agg #[.bool false, .slice a4 1 c4, .int .i64 0], .int .i64 0] w1 fun r w' => r = .returned (.bool true) ∧ Gr w1 w') := fun a4 c4 w1 g h => is25 s1 false a1 a4 n1 1 c1 c4 e1 0 _ w1 (DA.out.gr g) ⟨1, ⟨h, by omega, Or.inr ⟨0, rfl, by omega, by omega⟩⟩, rfl⟩
  have I2 : Hid (∀ a4 c4 w1, Gr w7 w1 → Lim w1 a4 1 c4 18446744073709551616 23 → Calls Tryz.prog 36 #[.agg #[.bool s2, .slice a2 n2 c2, .int .i64 e2], .int .i64 0, .agg #[.bool false, .slice a4 1 c4, .int .i64 (-4)], .int .i64 0] w1 fun r w' => r = .returned (.bool true) ∧ Gr w1 w') := fun a4 c4 w1 g h => is25 s2 false a2 a4 n2 1 c2 c4 e2 (-4) _ w1 (DB.out.gr g) ⟨23, ⟨h, by omega, Or.inr ⟨11, rfl, by omega, by omega⟩⟩, rfl⟩
  go_region_held3 (fun w' => (w'.cell? ⟨pa, 0, none⟩ = some (.bool s1) ∧ w'.cell? ⟨pa, 1, none⟩ = some (.slice a1 n1 c1) ∧ w'.cell? ⟨pa, 2, none⟩ = some (.int .i64 e1) ∧ w'.cell? ⟨pb, 0, none⟩ = some (.bool s2) ∧ w'.cell? ⟨pb, 1, none⟩ = some (.slice a2 n2 c2) ∧ w'.cell? ⟨pb, 2, none⟩ = some (.int .i64 e2)) ∧ Gr w7 w') (first | (with_reducible assumption) | (apply keep6; (with_reducible assumption); (with_reducible assumption))) (first | (go_at_call 34; (with_reducible refine (A5.out _).mono ?_); rintro r w8 ⟨ad8, k8, rfl, l8, g8⟩) | (go_at_call 34; (with_reducible refine (A6.out _).mono ?_); rintro r w9 ⟨ad9, k9, rfl, l9, g9⟩) | (go_at_call 36; (with_reducible refine (I1.out _ _ _ ?gg l8).mono ?_); (case gg => exact And.right ‹_ ∧ Gr w7 _›); rintro r w10 ⟨rfl, g10⟩) | (go_at_call 36; (with_reducible refine (I2.out _ _ _ ?gg l9).mono ?_); (case gg => exact And.right ‹_ ∧ Gr w7 _›); rintro r w11 ⟨rfl, g11⟩))
  go_wp2
  go_ret
  exact ⟨rfl, G7.out.trans (((((Gr.refl w7).drew.trans g8).trans g10).trans g9).trans g11)⟩
end Go.Proofs.YtbkkpbffdnhidaaGreatDoor
namespace Go.Proofs.YtbkkpbffdnhidaaGreatDoor
open Go.RowKit
set_option linter.unusedVariables false

set_option maxHeartbeats 1600000 in
/-- SameDyad of two dyads, right or not, of one sign, one power, and one row of limbs -/
theorem sameD23 (s : Bool) (ad1 ad2 : Option Addr) (n c1 c2 : Nat) (e : Int) (xs : List Nat) (w : World) (rx : Row w ad1 n c1 xs) (ry : Row w ad2 n c2 xs) :
    Calls Tryz.prog 23 #[.agg #[.bool s, .slice ad1 n c1, .int .i64 e], .agg #[.bool s, .slice ad2 n c2, .int .i64 e]] w fun r w' => r = .returned (.bool true) ∧ Gr w w' := by
  have H39 : Hid (∀ w1, Gr w w1 → Calls Tryz.prog 66 #[.slice ad1 n c1, .slice ad2 n c2] w1 fun r w' => r = .returned (.bool true) ∧ Gr w1 w') := fun w1 g => sameLimbs39 ad1 ad2 n c1 c2 xs w1 (rx.gr g) (ry.gr g)
  clear rx ry
  have TB : Hid _ := two_blocks w (.bool s) (.slice ad1 n c1) (.int .i64 e) (.bool s) (.slice ad2 n c2) (.int .i64 e) _ rfl
  go_enter Tryz.func23, Tryz.ntmps23
  go_wp2_with (go_at_call 66; (with_reducible refine (H39.out _ (gr2 _ _)).mono ?_); rintro r w1 ⟨rfl, g1⟩; have k := keep6 g1 TB.out; have k2 := k.1.2.2.1; have k5 := k.1.2.2.2.2.2)
  go_ret
  exact ⟨rfl, k.2⟩
/-- SameDyad of two marks -/
theorem sameM23 (e : Int) (w : World) : Calls Tryz.prog 23 #[.agg #[.bool false, .slice none 0 0, .int .i64 e], .agg #[.bool false, .slice none 0 0, .int .i64 e]] w fun r w' => r = .returned (.bool true) ∧ Gr w w' :=
  sameD23 false none none 0 0 0 e [] w (Row.empty (by omega) (fun _ => rfl)) (Row.empty (by omega) (fun _ => rfl))
set_option maxHeartbeats 1600000 in
theorem markD151 (k i : Nat) (w : World) (k1 : k ≤ 1000) (i1 : i ≤ 10000000) : Calls Tryz.prog 151 #[.int .i64 (k : Int), .int .i64 (i : Int)] w fun r w' => r = .returned (.agg #[.bool false, .slice none 0 0, .int .i64 ((mu k i : Nat) : Int)]) ∧ Gr w w' := by
  have MK : Hid (∀ w1, Calls Tryz.prog 81 #[.int .i64 (k : Int), .int .i64 (i : Int)] w1 fun r w' => r = .returned (.int .i64 ((mu k i : Nat) : Int)) ∧ w1 = w') := fun w1 => mark81 k i w1 k1 i1
  generalize mu k i = y at *
  go_enter Tryz.func151, Tryz.ntmps151
  go_wp2_with (go_at_call 81; (with_reducible refine (MK.out _).mono ?_); rintro r w1 ⟨rfl, rfl⟩)
  refine bodyPost_ret (v := .agg #[.bool false, .slice none 0 0, .int .i64 (y : Int)]) ?_ rfl ⟨rfl, ?_⟩
  · simp [results, Tryz.results151, go_sem]
  · exact (Gr.refl w).alloc _
set_option maxHeartbeats 1600000 in
theorem lentD8 (s : Bool) (ad : Option Addr) (n c : Nat) (e : Int) (xs : List Nat) (w : World) (hn : n ≤ 1048576) (hr : Row w ad n c xs) :
    Calls Tryz.prog 8 #[.agg #[.bool s, .slice ad n c, .int .i64 e]] w fun r w' => ∃ g, r = .returned (.agg #[.bool s, .slice (some ⟨g, 0, none⟩) n (n + 12), .int .i64 e]) ∧ w'.ownsRow w.heap.size 49 1 (.slice (some ⟨g, 0, none⟩) (n + 12) (n + 12)) (n + 12) (u64s (xs ++ ml 1 12)) ∧ Gr w w' := by
  have LL : Hid (∀ w1, Gr w w1 → Calls Tryz.prog 37 #[.slice ad n c] w1 fun r w' => ∃ g, r = .returned (.slice (some ⟨g, 0, none⟩) n (n + 12)) ∧ w'.ownsRow w1.heap.size 49 1 (.slice (some ⟨g, 0, none⟩) (n + 12) (n + 12)) (n + 12) (u64s (xs ++ ml 1 12)) ∧ Gr w1 w') := fun w1 g => lent37 ad n c xs w1 hn (hr.gr g)
  clear hr
  have TB : Hid _ := two_blocks w (.bool s) (.slice ad n c) (.int .i64 e) (.bool false) (.slice none 0 0) (.int .i64 0) _ rfl
  have kb0 : Hid _ := second_block w (.cells #[.bool s, .slice ad n c, .int .i64 e] 24) (.cells #[.bool false, .slice none 0 0, .int .i64 0] 24)
  have hne : w.heap.size ≠ w.heap.size + 1 := by omega
  go_enter Tryz.func8, Tryz.ntmps8
  go_wp2_with (go_at_call 37; (with_reducible refine (LL.out _ (gr2 _ _)).mono ?_); rintro r w1 ⟨g, rfl, hown, g1⟩; have k := keep6 g1 TB.out; have k0 := k.1.1; have k1 := k.1.2.1; have k2 := k.1.2.2.1; have kb := g1.keepH kb0.out; have ka : w1.heap[w.heap.size]? = some (.cells #[.bool s, .slice ad n c, .int .i64 e] 24) := g1.keepH (((Gr.refl _).alloc _).keepH (by show (w.heap.push _)[w.heap.size]? = _; simp)); have f1 : w1.frozen? ⟨w.heap.size, 1, none⟩ = false := (by simp [World.frozen?, ka]); obtain ⟨t0, t1, t2, u0, u1, u2⟩ := Out3.of kb)
  have hgl := (hown.lt g rfl).1
  have hgl2 : w.heap.size + 2 ≤ g := by simpa using hgl
  have far : ∀ (i : Nat), (⟨w.heap.size, 1, none⟩ : Addr) ≠ ⟨w.heap.size + 1, i, none⟩ := fun i e => by injection e with e; omega
  have T0 := (World.cell?_setCell_other w1 _ _ (.slice (some ⟨g, 0, none⟩) n (n + 12)) (far 0)).trans t0
  have T1 := (World.cell?_setCell_other w1 _ _ (.slice (some ⟨g, 0, none⟩) n (n + 12)) (far 1)).trans t1
  have T2 := (World.cell?_setCell_other w1 _ _ (.slice (some ⟨g, 0, none⟩) n (n + 12)) (far 2)).trans t2
  have hgn : (Value.slice (some ⟨g, 0, none⟩) (n + 12) (n + 12)).ownBlock ≠ some w.heap.size := fun e => by injection e with e; simp only at e; omega
  have hgn2 : (Value.slice (some ⟨g, 0, none⟩) (n + 12) (n + 12)).ownBlock ≠ some (w.heap.size + 1) := fun e => by injection e with e; simp only at e; omega
  have HO := owns_far (owns_low hown (show w.heap.size ≤ _ by simp; omega)) hgn 1 (.slice (some ⟨g, 0, none⟩) n (n + 12))
  have HG := k.2.setCell (p := ⟨w.heap.size, 1, none⟩) (Nat.le_refl _) (.slice (some ⟨g, 0, none⟩) n (n + 12))
  generalize w1.setCell ⟨w.heap.size, 1, none⟩ (.slice (some ⟨g, 0, none⟩) n (n + 12)) = W at *
  refine bodyPost_ret (v := .agg #[.bool s, .slice (some ⟨g, 0, none⟩) n (n + 12), .int .i64 e]) ?_ rfl ⟨g, rfl, owns_far (owns_far (owns_far HO hgn2 _ _) hgn2 _ _) hgn2 _ _, ?_⟩
  · simp [results, Tryz.results8, go_sem, T0, T1, T2]
  · exact ((HG.setCell (p := ⟨w.heap.size + 1, 0, none⟩) (Nat.le_succ _) _).setCell (p := ⟨w.heap.size + 1, 1, none⟩) (Nat.le_succ _) _).setCell (p := ⟨w.heap.size + 1, 2, none⟩) (Nat.le_succ _) _
set_option maxHeartbeats 1600000 in
theorem overD20 (s : Bool) (base g n : Nat) (e : Int) (zs : List Nat) (w : World) (hn : n ≤ 1048576) (ho : w.ownsRow base 49 1 (.slice (some ⟨g, 0, none⟩) (n + 12) (n + 12)) (n + 12) (u64s zs)) :
    Calls Tryz.prog 20 #[.agg #[.bool s, .slice (some ⟨g, 0, none⟩) n (n + 12), .int .i64 e]] w fun r w' => r = .returned (.tuple #[]) ∧ Gy (some g) w w' := by
  have OO : Hid (∀ w1, Gr w w1 → Calls Tryz.prog 60 #[.slice (some ⟨g, 0, none⟩) n (n + 12)] w1 fun r w' => r = .returned (.tuple #[]) ∧ Gy (some g) w1 w') := fun w1 gg => over60 base g n (n + 12) zs w1 hn (gg.owns ho)
  have G0 := hide ((Gr.refl w).alloc (.cells #[.bool s, .slice (some ⟨g, 0, none⟩) n (n + 12), .int .i64 e] 24))
  clear ho
  go_enter Tryz.func20, Tryz.ntmps20
  go_wp2_with (go_at_call 60; (with_reducible refine (OO.out _ G0.out).mono ?_); rintro r w1 ⟨rfl, g1⟩)
  refine bodyPost_end (v := .tuple #[]) (by simp [results, Tryz.results20, go_sem]) rfl ⟨rfl, ?_⟩
  exact ⟨g1.os.trans G0.out.os, g1.output.trans G0.out.output, Nat.le_trans G0.out.size g1.size, fun k hk hn => (g1.block k (Nat.lt_of_lt_of_le hk G0.out.size) hn).trans (G0.out.block k hk)⟩
set_option maxHeartbeats 1600000 in
theorem keptD19 (s : Bool) (base g n c : Nat) (ad : Option Addr) (e : Int) (xs : List Nat) (w : World) (hn : n ≤ 1048576) (hr : Row w ad n c xs) (hx : ∀ x ∈ xs, x < 18446744073709551616) (ho : w.ownsRow base 49 1 (.slice (some ⟨g, 0, none⟩) (n + 12) (n + 12)) (n + 12) (u64s (xs ++ ml 1 12))) :
    Calls Tryz.prog 19 #[.agg #[.bool s, .slice (some ⟨g, 0, none⟩) n (n + 12), .int .i64 e], .agg #[.bool s, .slice ad n c, .int .i64 e]] w fun r w' => r = .returned (.bool true) ∧ Gr w w' := by
  have hrow : Row w (some ⟨g, 0, none⟩) n (n + 12) xs := by
    have h1 := ownsU_less ho (show n ≤ n + 12 by omega)
    rw [List.take_append_of_le_length (by rw [hr.len]; omega), List.take_of_length_le (by rw [hr.len]; omega)] at h1
    obtain ⟨ad', cap', e', h2⟩ := Row.of_owns h1
    injection e' with e1 e2 e3
    rw [e1, e3]
    exact h2
  have S1 : Hid (∀ w1, Gr w w1 → Calls Tryz.prog 23 #[.agg #[.bool s, .slice (some ⟨g, 0, none⟩) n (n + 12), .int .i64 e], .agg #[.bool s, .slice ad n c, .int .i64 e]] w1 fun r w' => r = .returned (.bool true) ∧ Gr w1 w') := fun w1 gg => sameD23 s _ _ n _ _ e xs w1 (hrow.gr gg) (hr.gr gg)
  have K1 : Hid (∀ w1, Gr w w1 → Calls Tryz.prog 59 #[.slice (some ⟨g, 0, none⟩) n (n + 12), .slice ad n c] w1 fun r w' => r = .returned (.bool true) ∧ Gr w1 w') := fun w1 gg => kept59 base g n c ad xs w1 hn (hr.gr gg) hx (gg.owns ho)
  clear hr hx ho hrow
  have TB : Hid _ := two_blocks w (.bool s) (.slice (some ⟨g, 0, none⟩) n (n + 12)) (.int .i64 e) (.bool s) (.slice ad n c) (.int .i64 e) _ rfl
  go_enter Tryz.func19, Tryz.ntmps19
  go_wp2_with (first | (go_at_call 23; (with_reducible refine (S1.out _ (gr2 _ _)).mono ?_); rintro r w1 ⟨rfl, g1⟩; have k := keep6 g1 TB.out; have k0 := k.1.1; have k1 := k.1.2.1; have k2 := k.1.2.2.1; have k3 := k.1.2.2.2.1; have k4 := k.1.2.2.2.2.1; have k5 := k.1.2.2.2.2.2) | (go_at_call 59; (with_reducible refine (K1.out _ k.2).mono ?_); rintro r w2 ⟨rfl, g2⟩))
  go_ret
  exact ⟨rfl, k.2.trans g2⟩
end Go.Proofs.YtbkkpbffdnhidaaGreatDoor
namespace Go.Proofs.YtbkkpbffdnhidaaGreatDoor
open Go.RowKit
set_option linter.unusedVariables false

/-! FULL ROWS OF DYADS: three cells each -/
def mc (k i : Nat) : List Value := [.bool false, .slice none 0 0, .int .i64 ((mu k i : Nat) : Int)]
def dm (k : Nat) : Nat → List Value
  | 0 => []
  | n + 1 => dm k n ++ mc k n
theorem dm_len (k n : Nat) : (dm k n).length = n * 3 := by
  induction n with
  | zero => rfl
  | succ n ih => simp only [dm, List.length_append, ih, mc, List.length_cons, List.length_nil]; omega
theorem dm_get (k n j : Nat) (h : j < n) : (dm k n)[j * 3]? = some (.bool false) ∧ (dm k n)[j * 3 + 1]? = some (.slice none 0 0) ∧ (dm k n)[j * 3 + 2]? = some (.int .i64 ((mu k j : Nat) : Int)) := by
  induction n with
  | zero => omega
  | succ n ih =>
    have hl := dm_len k n
    by_cases e : j = n
    · subst e
      simp only [dm]
      refine ⟨?_, ?_, ?_⟩
      · rw [List.getElem?_append_right (by omega), hl, Nat.sub_self]; rfl
      · rw [List.getElem?_append_right (by omega), hl, Nat.add_sub_cancel_left]; rfl
      · rw [List.getElem?_append_right (by omega), hl, Nat.add_sub_cancel_left]; rfl
    · obtain ⟨h0, h1, h2⟩ := ih (by omega)
      simp only [dm]
      refine ⟨?_, ?_, ?_⟩
      · rw [List.getElem?_append_left (by omega)]; exact h0
      · rw [List.getElem?_append_left (by omega)]; exact h1
      · rw [List.getElem?_append_left (by omega)]; exact h2
theorem dm_one (k n : Nat) : ∀ u ∈ dm k n, u.oneCell' = true := by
  induction n with
  | zero => intro u hu; cases hu
  | succ n ih =>
    intro u hu
    simp only [dm, List.mem_append] at hu
    rcases hu with hu | hu
    · exact ih u hu
    · simp only [mc, List.mem_cons, List.not_mem_nil, or_false] at hu
      rcases hu with rfl | rfl | rfl <;> rfl
theorem mc_one (k n : Nat) : ∀ u ∈ mc k n, u.oneCell' = true := fun u hu => by
  simp only [mc, List.mem_cons, List.not_mem_nil, or_false] at hu
  rcases hu with rfl | rfl | rfl <;> rfl
/-- a row marked as far as i -/
def pd (k : Nat) (zs : List Value) (i : Nat) : List Value := dm k i ++ zs.drop (i * 3)
theorem pd_0 (k : Nat) (zs : List Value) : pd k zs 0 = zs := by simp [pd, dm]
theorem pd_set (k : Nat) (zs : List Value) (i : Nat) (h : i * 3 + 3 ≤ zs.length) : (((pd k zs i).set (i * 3) (.bool false)).set (i * 3 + 1) (.slice none 0 0)).set (i * 3 + 2) (.int .i64 ((mu k i : Nat) : Int)) = pd k zs (i + 1) := by
  unfold pd
  have hl := dm_len k i
  obtain ⟨a, b, c, rest, hd⟩ : ∃ a b c rest, zs.drop (i * 3) = a :: b :: c :: rest := by
    match hz : zs.drop (i * 3) with
    | [] => have := congrArg List.length hz; simp at this; omega
    | [a] => have := congrArg List.length hz; simp at this; omega
    | [a, b] => have := congrArg List.length hz; simp at this; omega
    | a :: b :: c :: rest => exact ⟨a, b, c, rest, rfl⟩
  have hd2 : zs.drop ((i + 1) * 3) = rest := by
    rw [show (i + 1) * 3 = i * 3 + 3 by omega, ← List.drop_drop, hd]
    rfl
  rw [hd, hd2, List.set_append_right _ _ (by omega), List.set_append_right _ _ (by omega), List.set_append_right _ _ (by omega), hl, Nat.sub_self, Nat.add_sub_cancel_left, Nat.add_sub_cancel_left]
  simp [dm, mc, List.set]
theorem pd_len (k : Nat) (zs : List Value) (i : Nat) (h : i * 3 ≤ zs.length) : (pd k zs i).length = zs.length := by
  unfold pd
  rw [List.length_append, dm_len, List.length_drop]
  omega
theorem pd_all (k : Nat) (zs : List Value) (n : Nat) (h : zs.length = n * 3) : pd k zs n = dm k n := by
  unfold pd
  rw [List.drop_eq_nil_of_le (by omega), List.append_nil]
/-- full rows that lie apart -/
structure Aq (m : Nat) (V : Nat → Value) (nn : Nat → Nat) (base bl : Nat) : Prop where
  val : ∀ k, k < m → ∃ b, V k = .slice (some ⟨b, 0, none⟩) (nn k) (nn k)
  apart : ∀ j k, j < m → k < m → ∀ b, (V j).ownBlock = some b → (V k).ownBlock = some b → j = k
  off : ∀ k, k < m → (V k).ownBlock ≠ some bl
  lo : ∀ k, k < m → ∀ b, (V k).ownBlock = some b → base ≤ b
def Hq (m : Nat) (V : Nat → Value) (nn : Nat → Nat) (base bl : Nat) (zss : Nat → List Value) (w : World) : Prop :=
  (∀ k, k < m → w.ownsRow base 24 3 (V k) (nn k) (zss k)) ∧ (∀ k, k < m → w.cell? ⟨bl, k, none⟩ = some (V k))
theorem Hq.gr {m : Nat} {V : Nat → Value} {nn : Nat → Nat} {base bl : Nat} {zss : Nat → List Value} {w w' : World} (h : Hq m V nn base bl zss w) (g : Gr w w') : Hq m V nn base bl zss w' := ⟨fun k hk => g.owns (h.1 k hk), fun k hk => g.keep (h.2 k hk)⟩
def upq (f : Nat → List Value) (k : Nat) (l : List Value) : Nat → List Value := fun j => if j = k then l else f j
theorem upq_same (f : Nat → List Value) (k : Nat) (l : List Value) : upq f k l k = l := if_pos rfl
theorem upq_ne {f : Nat → List Value} {k j : Nat} {l : List Value} (h : j ≠ k) : upq f k l j = f j := if_neg h
theorem upq_self (f : Nat → List Value) (k : Nat) : upq f k (f k) = f := by
  funext j
  by_cases h : j = k
  · subst h; exact upq_same _ _ _
  · exact upq_ne h
def flq (zss : Nat → List Value) (nn : Nat → Nat) (k : Nat) : Nat → List Value := fun j => if j < k then dm j (nn j) else zss j
theorem flq_succ (zss : Nat → List Value) (nn : Nat → Nat) (k : Nat) : flq zss nn (k + 1) = upq (flq zss nn k) k (dm k (nn k)) := by
  funext j
  show (if j < k + 1 then dm j (nn j) else zss j) = (if j = k then dm k (nn k) else (if j < k then dm j (nn j) else zss j))
  by_cases h : j = k
  · subst h
    rw [if_pos (by omega), if_pos rfl]
  · rw [if_neg h]
    by_cases h2 : j < k
    · rw [if_pos (by omega), if_pos h2]
    · rw [if_neg (by omega), if_neg h2]
theorem flq_at (zss : Nat → List Value) (nn : Nat → Nat) (k : Nat) : flq zss nn k k = zss k := by
  unfold flq
  rw [if_neg (by omega)]
theorem owns_set3 {w : World} {base : Nat} {e : TypeId} {size g N cap : Nat} {zs : List Value} (h : w.ownsRow base e size (.slice (some ⟨g, 0, none⟩) N cap) N zs) (i : Nat) (v0 v1 v2 : Value) : (((w.setCell ⟨g, i, none⟩ v0).setCell ⟨g, i + 1, none⟩ v1).setCell ⟨g, i + 2, none⟩ v2).ownsRow base e size (.slice (some ⟨g, 0, none⟩) N cap) N (((zs.set i v0).set (i + 1) v1).set (i + 2) v2) :=
  (((h.stored i v0).1.stored (i + 1) v1).1.stored (i + 2) v2).1
theorem Hq.mark {m : Nat} {V : Nat → Value} {nn : Nat → Nat} {base bl : Nat} {f : Nat → List Value} {w : World} (A : Aq m V nn base bl) {k b n : Nat} (hk : k < m) (hV : V k = .slice (some ⟨b, 0, none⟩) n n) (hn : nn k = n) {zs : List Value} (h : Hq m V nn base bl (upq f k zs) w) (i : Nat) (v0 v1 v2 : Value) :
    Hq m V nn base bl (upq f k (((zs.set i v0).set (i + 1) v1).set (i + 2) v2)) (((w.setCell ⟨b, i, none⟩ v0).setCell ⟨b, i + 1, none⟩ v1).setCell ⟨b, i + 2, none⟩ v2) := by
  have hbl : b ≠ bl := fun e => A.off k hk (by rw [hV]; simp [Value.ownBlock, e])
  refine ⟨fun j hj => ?_, fun j hj => ?_⟩
  · by_cases e : j = k
    · subst e
      have h1 := h.1 j hj
      rw [upq_same] at h1 ⊢
      rw [hV, hn] at h1 ⊢
      exact owns_set3 h1 i v0 v1 v2
    · have h1 := h.1 j hj
      rw [upq_ne e] at h1 ⊢
      have hne : (V j).ownBlock ≠ some b := fun hc => e (A.apart j k hj hk b hc (by rw [hV]; rfl))
      exact owns_far (owns_far (owns_far h1 hne _ _) hne _ _) hne _ _
  · have ne : ∀ i, (⟨b, i, none⟩ : Addr) ≠ ⟨bl, j, none⟩ := fun i e => hbl (by injection e)
    rw [World.cell?_setCell_other _ _ _ _ (ne _), World.cell?_setCell_other _ _ _ _ (ne _), World.cell?_setCell_other _ _ _ _ (ne _)]
    exact h.2 j hj
theorem Hq.far {m : Nat} {V : Nat → Value} {nn : Nat → Nat} {base bl : Nat} {f : Nat → List Value} {w : World} (h : Hq m V nn base bl f w) {g i : Nat} {v : Value} (h1 : ∀ k, k < m → ∀ b, (V k).ownBlock = some b → b ≠ g) (h2 : bl ≠ g) : Hq m V nn base bl f (w.setCell ⟨g, i, none⟩ v) := by
  refine ⟨fun k hk => owns_far (h.1 k hk) (fun e => h1 k hk g e rfl) i v, fun k hk => ?_⟩
  rw [World.cell?_setCell_other _ _ _ _ (fun e => h2 (by injection e with e1; exact e1.symm))]
  exact h.2 k hk
/-- what row's three cells hold -/
theorem owns_at3 {w : World} {base : Nat} {g N cap k : Nat} (h : w.ownsRow base 24 3 (.slice (some ⟨g, 0, none⟩) N cap) N (dm k N)) {j : Nat} (hj : j < N) : w.cell? ⟨g, j * 3, none⟩ = some (.bool false) ∧ w.cell? ⟨g, j * 3 + 1, none⟩ = some (.slice none 0 0) ∧ w.cell? ⟨g, j * 3 + 2, none⟩ = some (.int .i64 ((mu k j : Nat) : Int)) := by
  obtain ⟨h0, h1, h2⟩ := dm_get k N j hj
  exact ⟨(h.cellAt _ (by omega)).trans h0, (h.cellAt _ (by omega)).trans h1, (h.cellAt _ (by omega)).trans h2⟩
theorem owns_lt3 {w : World} {base : Nat} {e : TypeId} {g N cap : Nat} {zs : List Value} (h : w.ownsRow base e 3 (.slice (some ⟨g, 0, none⟩) N cap) N zs) {i : Nat} (hi : i < N * 3) : ∃ v, w.cell? ⟨g, i, none⟩ = some v := by
  have hl := h.1
  exact ⟨zs[i]'(by omega), (h.cellAt i hi).trans (List.getElem?_eq_getElem (by omega))⟩
/-- the grown rows, as far as k, in new memory -/
def GQ (bgs m : Nat) (nn : Nat → Nat) (F : Nat → List Value) (k : Nat) (w : World) : Prop := ∃ cs : List Value, w.ownsRow bgs 43 1 (.slice (some ⟨bgs, 0, none⟩) m m) m cs ∧ ∀ j, j < k → ∃ v, cs[j]? = some v ∧ w.ownsRow (bgs + 1) 24 3 v (nn j + 64) (F j)
theorem GQ.gr {bgs m : Nat} {nn : Nat → Nat} {F : Nat → List Value} {k : Nat} {w w' : World} (h : GQ bgs m nn F k w) (g : Gr w w') : GQ bgs m nn F k w' := by
  obtain ⟨cs, h1, h2⟩ := h
  exact ⟨cs, g.owns h1, fun j hj => by obtain ⟨v, e, o⟩ := h2 j hj; exact ⟨v, e, g.owns o⟩⟩
theorem GQ.put {bgs m : Nat} {nn : Nat → Nat} {F : Nat → List Value} {k : Nat} {w : World} (h : GQ bgs m nn F k w) {v : Value} (hk : k < m) (hv : w.ownsRow (bgs + 1) 24 3 v (nn k + 64) (F k)) : GQ bgs m nn F (k + 1) (w.setCell ⟨bgs, k, none⟩ v) := by
  obtain ⟨cs, h1, h2⟩ := h
  have far : ∀ {u : Value} {n : Nat} {xs : List Value}, w.ownsRow (bgs + 1) 24 3 u n xs → (w.setCell ⟨bgs, k, none⟩ v).ownsRow (bgs + 1) 24 3 u n xs := fun ho => owns_far ho (fun hc => by
    have := (ho.lt bgs hc).1
    omega) _ _
  have hl : cs.length = m := by have := h1.1; omega
  refine ⟨cs.set k v, (h1.stored k v).1, fun j hj => ?_⟩
  by_cases e : j = k
  · subst e
    exact ⟨v, by rw [List.getElem?_set_self (by omega)], far hv⟩
  · obtain ⟨u, e1, o1⟩ := h2 j (by omega)
    exact ⟨u, by rw [List.getElem?_set_ne (Ne.symm e)]; exact e1, far o1⟩
theorem GQ.lt {bgs m : Nat} {nn : Nat → Nat} {F : Nat → List Value} {k : Nat} {w : World} (h : GQ bgs m nn F k w) : bgs + 1 ≤ w.heap.size := by
  obtain ⟨cs, h1, _⟩ := h
  exact (h1.lt bgs rfl).2
theorem GQ.cell {bgs m : Nat} {nn : Nat → Nat} {F : Nat → List Value} {k : Nat} {w : World} (h : GQ bgs m nn F k w) {j : Nat} (hj : j < m) : ∃ v, w.cell? ⟨bgs, j, none⟩ = some v := by
  obtain ⟨cs, h1, _⟩ := h
  have hl : cs.length = m := by have := h1.1; omega
  exact ⟨cs[j]'(by omega), by rw [h1.cellAt j (by omega), List.getElem?_eq_getElem (by omega)]⟩
theorem GQ.frozen {bgs m : Nat} {nn : Nat → Nat} {F : Nat → List Value} {k : Nat} {w : World} (h : GQ bgs m nn F k w) {j : Nat} : w.frozen? ⟨bgs, j, none⟩ = false := by
  obtain ⟨cs, h1, _⟩ := h
  exact h1.frozenAt j
theorem GQ.at {bgs m : Nat} {nn : Nat → Nat} {F : Nat → List Value} {w : World} (hs : GQ bgs m nn F m w) {j : Nat} (hj : j < m) : ∃ v, w.cell? ⟨bgs, j, none⟩ = some v ∧ w.ownsRow (bgs + 1) 24 3 v (nn j + 64) (F j) := by
  obtain ⟨cs, h1, h2⟩ := hs
  obtain ⟨v, e, o⟩ := h2 j hj
  exact ⟨v, by rw [h1.cellAt j (by omega)]; exact e, o⟩
theorem owns_form3 {w : World} {base n : Nat} {e : TypeId} {v : Value} {zs : List Value} (h : w.ownsRow base e 3 v n zs) (hn : 0 < n) : ∃ b cap, v = .slice (some ⟨b, 0, none⟩) n cap ∧ (n ≤ cap ∧ cap ≤ 9223372036854775807) := by
  rcases h.2 with ⟨e, h0⟩ | ⟨g, cap, cur, e, _, _, h1, h2, _⟩
  · omega
  · exact ⟨g, cap, e, h1, h2⟩
theorem owns_row3 {w : World} {base : Nat} {e : TypeId} {g n cap : Nat} {zs : List Value} (h : w.ownsRow base e 3 (.slice (some ⟨g, 0, none⟩) n cap) n zs) {b : Addr} (eb : some (⟨g, 0, none⟩ : Addr) = some b) {j : Nat} {u : Value} (hu : zs[j]? = some u) : w.cell? (b.add j) = some u := by
  injection eb with eb
  subst eb
  have hj : j < n * 3 := by
    have := (List.getElem?_eq_some_iff.1 hu).1
    have := h.1
    omega
  rw [← hu, ← h.cellAt j hj]
  unfold Addr.add
  split
  · rename_i h0; subst h0; rfl
  · simp
end Go.Proofs.YtbkkpbffdnhidaaGreatDoor
