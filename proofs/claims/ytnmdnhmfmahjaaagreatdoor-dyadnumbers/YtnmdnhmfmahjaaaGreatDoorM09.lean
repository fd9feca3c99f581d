import Derived.Test.YtnmdnhmfmahjaaaGreatDoorM08
namespace Go.Proofs.YtnmdnhmfmahjaaaGreatDoor
open Go.RowKit
set_option linter.unusedVariables false

open Ieee in
theorem mul_run (w : World) (x y r : Nat) (h : double.mul x y = some r) : (binOp .mul 27 (.float .f64 x) (.float .f64 y)).run Tryz.prog w = .ok (.float .f64 r) w :=
  run_float_arith (P := Tryz.prog) w .mul 27 .f64 x y r h
def nanB (x : Nat) : Bool := (FloatKind.f64.format.order x x != some .eq)
def absN (x : Nat) : Nat := (bits BinOp.andNot IntKind.u64 x 9223372036854775808).toNat
def pinfB (x : Nat) : Bool := FloatKind.f64.format.order x 9218868437227405311 == some .gt
def copyN (x y : Nat) : Nat := (bits BinOp.or IntKind.u64 (bits BinOp.andNot IntKind.u64 x 9223372036854775808) (bits BinOp.and IntKind.u64 y 9223372036854775808)).toNat
theorem fbits50 (x : Nat) (w : World) : (callFunc 36 #[.float .f64 x]).run Tryz.prog w = .ok (.value (.int .u64 x)) w := by
  kernel_rfl
theorem from68 (x : Int) (w : World) : (callFunc 58 #[.int .u64 x]).run Tryz.prog w = .ok (.value (.float .f64 x.toNat)) w := by
  kernel_rfl
theorem nan43 (x : Nat) (w : World) : Calls Tryz.prog 55 #[.float .f64 x] w fun e w' => e = .returned (.bool (nanB x)) ∧ w' = w := by
  go_enter Tryz.func55, Tryz.ntmps55
  go_wp2
  go_ret
  exact ⟨rfl, rfl⟩
theorem abs47 (x : Nat) (w : World) : Calls Tryz.prog 57 #[.float .f64 x] w fun e w' => e = .returned (.float .f64 (absN x)) ∧ w' = w := by
  have h1 := fbits50
  have h2 := from68
  go_enter Tryz.func57, Tryz.ntmps57
  go_wp2
  go_ret
  exact ⟨rfl, rfl⟩
theorem inf44 (x : Nat) (w : World) : Calls Tryz.prog 31 #[.float .f64 x, .int .i64 0] w fun e w' => e = .returned (.bool (pinfB (absN x))) ∧ w' = w := by
  go_enter Tryz.func31, Tryz.ntmps31
  go_wp2_with (go_at_call 57; refine (abs47 _ _).mono ?_; rintro e w' ⟨rfl, rfl⟩)
  go_ret
  exact ⟨rfl, rfl⟩
theorem copy49 (x y : Nat) (w : World) : Calls Tryz.prog 22 #[.float .f64 x, .float .f64 y] w fun e w' => e = .returned (.float .f64 (copyN x y)) ∧ w' = w := by
  have h1 := fbits50
  have h2 := from68
  go_enter Tryz.func22, Tryz.ntmps22
  go_wp2
  go_ret
  exact ⟨rfl, rfl⟩
theorem norm81 (x : Nat) (w : World) (h : (FloatKind.f64.format.order (absN x) 4503599627370496 == some .lt) = false) :
    Calls Tryz.prog 99 #[.float .f64 x] w fun e w' => e = .returned (.tuple #[.float .f64 x, .int .i64 0]) ∧ w' = w := by
  go_enter Tryz.func99, Tryz.ntmps99
  go_wp2_with (go_at_call 57; refine (abs47 _ _).mono ?_; rintro e w' ⟨rfl, rfl⟩)
  go_ret2
  exact ⟨rfl, rfl⟩
theorem ldexp67 (x f z y : Nat) (e k E S : Int) (w : World) (h0 : (FloatKind.f64.format.order x 0 == some .eq) = false) (h1 : pinfB (absN x) = false) (h2 : nanB x = false)
    (hn : ∀ w, Calls Tryz.prog 99 #[.float .f64 x] w fun e w' => e = .returned (.tuple #[.float .f64 f, .int .i64 k]) ∧ w' = w) (he1 : -5000 ≤ e) (he2 : e ≤ 5000) (hk1 : -52 ≤ k) (hk2 : k ≤ 0)
    (hE : bits BinOp.and IntKind.i64 (wrap64 (↑f / 4503599627370496)) 2047 = E) (hE1 : 0 ≤ E) (hE2 : E ≤ 2047) (hS : e + k + (E - 1023) = S) (hS1 : -1022 ≤ S) (hS2 : S ≤ 1023)
    (hc : bits BinOp.andNot IntKind.u64 (f : Int) 9218868437227405312 = (y : Int)) (hp : bits BinOp.or IntKind.u64 (y : Int) ((S + 1023) * 4503599627370496) = (z : Int)) (hr : Ieee.double.mul 4607182418800017408 z = some z) :
    Calls Tryz.prog 69 #[.float .f64 x, .int .i64 e] w fun e w' => e = .returned (.float .f64 z) ∧ w' = w := by
  have g := mul_run w _ _ _ hr
  clear hr
  have b1 := fbits50
  have b2 := from68
  have HN : Hid (∀ w, Calls Tryz.prog 99 #[.float .f64 x] w fun e w' => e = .returned (.tuple #[.float .f64 f, .int .i64 k]) ∧ w' = w) := hn
  clear hn
  subst hS
  go_enter Tryz.func69, Tryz.ntmps69
  go_wp2_with (first | (go_at_call 31; refine (inf44 _ _).mono ?_; rintro e w' ⟨rfl, rfl⟩) | (go_at_call 55; refine (nan43 _ _).mono ?_; rintro e w' ⟨rfl, rfl⟩) | (go_at_call 99; refine (HN.out _).mono ?_; rintro e w' ⟨rfl, rfl⟩))
  go_ret
  exact ⟨rfl, rfl⟩
theorem ldexp46 (x z : Nat) (e : Int) (w : World) (h : ∀ w, Calls Tryz.prog 69 #[.float .f64 x, .int .i64 e] w fun e w' => e = .returned (.float .f64 z) ∧ w' = w) :
    Calls Tryz.prog 29 #[.float .f64 x, .int .i64 e] w fun e w' => e = .returned (.float .f64 z) ∧ w' = w := by
  have H : Hid (∀ w, Calls Tryz.prog 69 #[.float .f64 x, .int .i64 e] w fun e w' => e = .returned (.float .f64 z) ∧ w' = w) := h
  clear h
  go_enter Tryz.func29, Tryz.ntmps29
  go_wp2_with (go_at_call 69; refine (H.out _).mono ?_; rintro e w' ⟨rfl, rfl⟩)
  go_ret
  exact ⟨rfl, rfl⟩
theorem ldexpC (w : World) : Calls Tryz.prog 29 #[.float .f64 4843621399236968448, .int .i64 (-52)] w fun e w' => e = .returned (.float .f64 4609434218613702656) ∧ w' = w :=
  ldexp46 _ _ _ w fun w => ldexp67 4843621399236968448 4843621399236968448 4609434218613702656 2251799813685248 (-52) 0 1075 0 w (by decide +kernel) (by decide +kernel) (by decide +kernel) (fun w => norm81 _ w (by decide +kernel)) (by omega) (by omega) (by omega) (by omega) (by decide +kernel) (by omega) (by omega) (by omega) (by omega) (by omega) (by decide +kernel) (by decide +kernel) (by decide +kernel)
theorem isInfC (w : World) : Calls Tryz.prog 31 #[.float .f64 4609434218613702656, .int .i64 0] w fun e w' => e = .returned (.bool false) ∧ w' = w := by
  have := inf44 4609434218613702656 w
  rw [show pinfB (absN 4609434218613702656) = false by decide +kernel] at this
  exact this
theorem copysignC (w : World) : Calls Tryz.prog 22 #[.float .f64 4609434218613702656, .float .f64 13830554455654793216] w fun e w' => e = .returned (.float .f64 13832806255468478464) ∧ w' = w := by
  have := copy49 4609434218613702656 13830554455654793216 w
  rw [show copyN 4609434218613702656 13830554455654793216 = 13832806255468478464 by decide +kernel] at this
  exact this
set_option maxHeartbeats 800000 in
theorem nearest3 (ad : Option Addr) (cap : Nat) (w : World) (hx : Lim w ad 1 cap 18446744073709551616 3) :
    Calls Tryz.prog 30 #[.slice ad 1 cap, .int .i64 (-51)] w fun r w' => r = .returned (.int .u64 6755399441055744) ∧ Gr w w' := by
  have H42 : Hid (Calls Tryz.prog 46 #[.slice ad 1 cap, .int .i64 51] w fun r w' => ∃ p o cap', r = .returned (.slice (some ⟨p, o, none⟩) 1 cap') ∧ 1 ≤ cap' ∧ cap' ≤ 9223372036854775807 ∧ w'.cell? ⟨p, o, none⟩ = some (.int .u64 6755399441055744) ∧ Gr w w') := by
    refine (shift42 ad 1 cap 3 51 w hx (by omega) (by omega)).mono ?_
    rintro r w' ⟨a, n, c, rfl, h2, h3, h4⟩
    have h3 : Lim w' a n c 18446744073709551616 6755399441055744 := h3
    obtain rfl : n = 1 := lim_one h3 (by omega) (by omega)
    obtain ⟨xs, rx, dx⟩ := h3
    obtain ⟨v, rfl⟩ : ∃ v, xs = [v] := by
      have := rx.len
      match xs, this with
      | [v], _ => exact ⟨v, rfl⟩
    have hv : v = 6755399441055744 := by have := dx.1; simpa [nv] using this
    subst hv
    obtain ⟨p1, o1, rfl, hp1, hc1⟩ := rx.cells (by omega)
    have hc0 := hc1 0 (by omega)
    exact ⟨p1, o1, c, rfl, rx.le, rx.max, hc0, h4⟩
  clear hx
  go_enter Tryz.func30, Tryz.ntmps30
  go_wp2_with (go_at_call 46; (with_reducible refine H42.out.mono ?_); rintro r w1 ⟨p, o, c1, rfl, hc, hm, hcell, g1⟩)
  go_ret
  exact ⟨rfl, g1⟩
theorem keep4 {W wo wn : World} {p : Nat} {a0 a1 a2 : Value} (g : Gr wo wn) (h : (wo.cell? ⟨p, 0, none⟩ = some a0 ∧ wo.cell? ⟨p, 1, none⟩ = some a1 ∧ wo.cell? ⟨p, 2, none⟩ = some a2) ∧ Gr W wo) :
    (wn.cell? ⟨p, 0, none⟩ = some a0 ∧ wn.cell? ⟨p, 1, none⟩ = some a1 ∧ wn.cell? ⟨p, 2, none⟩ = some a2) ∧ Gr W wn :=
  ⟨⟨g.keep h.1.1, g.keep h.1.2.1, g.keep h.1.2.2⟩, h.2.trans g⟩
set_option maxHeartbeats 1600000 in
/-- Float, of -3/2 -/
theorem float3 (ad : Option Addr) (cap : Nat) (w : World) (hx : Lim w ad 1 cap 18446744073709551616 3) :
    Calls Tryz.prog 7 #[.agg #[.bool true, .slice ad 1 cap, .int .i64 (-1)]] w fun r w' => r = .returned (.tuple #[.float .f64 13832806255468478464, .int .i64 0]) ∧ Gr w w' := by
  have dx : DyAt w true ad 1 cap (-1) 3 := ⟨hx, by omega, Or.inr ⟨1, rfl, by omega, by omega⟩⟩
  have R := dx.r26
  have H40 : Hid (∀ w1, Gr w w1 → Calls Tryz.prog 28 #[.slice ad 1 cap] w1 fun r w' => r = .returned (.int .i64 2) ∧ Gr w1 w') := fun w1 g => by
    have := bitLength40 ad 1 cap 3 w1 (hx.gr g) (by omega) (by omega)
    rw [show bl 3 = 2 from bl_unique (by decide) (by decide)] at this
    exact this
  have H48 : Hid (∀ w1, Gr w w1 → Calls Tryz.prog 30 #[.slice ad 1 cap, .int .i64 (-51)] w1 fun r w' => r = .returned (.int .u64 6755399441055744) ∧ Gr w1 w') := fun w1 g => nearest3 ad cap w1 (hx.gr g)
  have A46 : Hid (∀ w, Calls Tryz.prog 29 #[.float .f64 (floatOfInt FloatKind.f64 6755399441055744), .int .i64 (-52)] w fun e w' => e = .returned (.float .f64 4609434218613702656) ∧ w' = w) := by
    rw [show floatOfInt FloatKind.f64 6755399441055744 = 4843621399236968448 by decide +kernel]
    exact ldexpC
  have A44 : Hid (∀ w, Calls Tryz.prog 31 #[.float .f64 4609434218613702656, .int .i64 0] w fun e w' => e = .returned (.bool false) ∧ w' = w) := isInfC
  have A49 : Hid (∀ w, Calls Tryz.prog 22 #[.float .f64 4609434218613702656, .float .f64 13830554455654793216] w fun e w' => e = .returned (.float .f64 13832806255468478464) ∧ w' = w) := copysignC
  clear hx dx
  go_enter Tryz.func7, Tryz.ntmps7
  go_wp2_with (first | (go_at_call 27; (with_reducible refine (R.out _ ((Gr.refl w).alloc _)).mono ?_); rintro r w1 ⟨rfl, g1⟩; have k0 : w1.cell? ⟨w.heap.size, 0, none⟩ = some (.bool true) := g1.keep (by simp); have k1 : w1.cell? ⟨w.heap.size, 1, none⟩ = some (.slice ad 1 cap) := g1.keep (by simp); have k2 : w1.cell? ⟨w.heap.size, 2, none⟩ = some (.int .i64 (-1)) := g1.keep (by simp); have G1 := ((Gr.refl w).alloc (.cells #[.bool true, .slice ad 1 cap, .int .i64 (-1)] 24)).trans g1))
  have hS0 : (w1.drew.cell? ⟨w.heap.size, 0, none⟩ = some (.bool true) ∧ w1.drew.cell? ⟨w.heap.size, 1, none⟩ = some (.slice ad 1 cap) ∧ w1.drew.cell? ⟨w.heap.size, 2, none⟩ = some (.int .i64 (-1))) ∧ Gr w w1.drew := ⟨⟨k0, k1, k2⟩, G1.drew⟩
  clear k0 k1 k2 g1 G1
  go_region_held3 (fun w' => (w'.cell? ⟨w.heap.size, 0, none⟩ = some (.bool true) ∧ w'.cell? ⟨w.heap.size, 1, none⟩ = some (.slice ad 1 cap) ∧ w'.cell? ⟨w.heap.size, 2, none⟩ = some (.int .i64 (-1))) ∧ Gr w w') (first | (with_reducible assumption) | (apply keep4; (with_reducible assumption); (with_reducible assumption))) (first | (go_at_call 28; (with_reducible refine (H40.out _ ?gg).mono ?_); (case gg => exact And.right ‹_ ∧ Gr w _›); rintro r w2 ⟨rfl, g2⟩))
  rw [show max (IntKind.i64.wrap (IntKind.i64.wrap 1 - 53)) (-1074) = -52 by decide +kernel]
  have hS1 := keep4 g2 hS0
  clear hS0 g2
  have k0 := hS1.1.1
  have k1 := hS1.1.2.1
  have k2 := hS1.1.2.2
  have G2 := hS1.2
  go_wp2_with (first | (go_at_call 30; (with_reducible refine (H48.out _ G2).mono ?_); rintro r w3 ⟨rfl, g3⟩; have j0 := g3.keep k0) | (go_at_call 29; (with_reducible refine (A46.out _).mono ?_); rintro r w4 ⟨rfl, rfl⟩) | (go_at_call 31; (with_reducible refine (A44.out _).mono ?_); rintro r w4 ⟨rfl, rfl⟩) | (go_at_call 22; (with_reducible refine (A49.out _).mono ?_); rintro r w4 ⟨rfl, rfl⟩))
  refine bodyPost_ret (v := .tuple #[.float .f64 13832806255468478464, .int .i64 0]) (by simp [results, Tryz.results7, go_sem]) rfl ⟨rfl, G2.trans g3⟩
end Go.Proofs.YtnmdnhmfmahjaaaGreatDoor
namespace Go.Proofs.YtnmdnhmfmahjaaaGreatDoor
open Go.RowKit
set_option linter.unusedVariables false

theorem one_is : sv KK false 3 (-2) + sv KK false 1 (-2) = sv KK false 1 0 := by
  have hk := KK_eq
  have h1 := plus_same (K := KK) (s := false) (m := 3) (n := 1) (e := -2) (f := -2) (by omega) (by omega)
  have h2 := sv_down KK false 1 0 (-2) (by omega) (by omega)
  rw [← h1, ← h2]
  rfl
theorem box_cells {w : World} {a0 a1 a2 : Value} : (w.alloc (.cells #[a0, a1, a2] 24)).cell? ⟨w.heap.size, 0, none⟩ = some a0 ∧ (w.alloc (.cells #[a0, a1, a2] 24)).cell? ⟨w.heap.size, 1, none⟩ = some a1 ∧ (w.alloc (.cells #[a0, a1, a2] 24)).cell? ⟨w.heap.size, 2, none⟩ = some a2 := ⟨by simp, by simp, by simp⟩
set_option maxHeartbeats 3200000 in
theorem awake7 (w : World) (hT : TabAt 1 Lib.deBruijn64tab w) :
    Calls Tryz.prog 6 #[] w fun r w' => r = .returned (.bool true) ∧ Gr w w' := by
  have A1 : Hid (∀ w1, Calls Tryz.prog 20 #[.bool false, .int .u64 3, .int .i64 (-2)] w1 fun r w' => ∃ ad cap, r = .returned (.agg #[.bool false, .slice ad 1 cap, .int .i64 (-2)]) ∧ Lim w' ad 1 cap 18446744073709551616 3 ∧ Gr w1 w') := fun w1 => small19 false 3 (-2) w1 (by omega) (by omega)
  have A2 : Hid (∀ w1, Calls Tryz.prog 20 #[.bool false, .int .u64 1, .int .i64 (-2)] w1 fun r w' => ∃ ad cap, r = .returned (.agg #[.bool false, .slice ad 1 cap, .int .i64 (-2)]) ∧ Lim w' ad 1 cap 18446744073709551616 1 ∧ Gr w1 w') := fun w1 => small19 false 1 (-2) w1 (by omega) (by omega)
  have A3 : Hid (∀ w1, Calls Tryz.prog 20 #[.bool false, .int .u64 1, .int .i64 1] w1 fun r w' => ∃ ad cap, r = .returned (.agg #[.bool false, .slice ad 1 cap, .int .i64 1]) ∧ Lim w' ad 1 cap 18446744073709551616 1 ∧ Gr w1 w') := fun w1 => small19 false 1 1 w1 (by omega) (by omega)
  have A4 : Hid (∀ w1, Calls Tryz.prog 20 #[.bool true, .int .u64 3, .int .i64 (-1)] w1 fun r w' => ∃ ad cap, r = .returned (.agg #[.bool true, .slice ad 1 cap, .int .i64 (-1)]) ∧ Lim w' ad 1 cap 18446744073709551616 3 ∧ Gr w1 w') := fun w1 => small19 true 3 (-1) w1 (by omega) (by omega)
  have A5 : Hid (∀ w1, Calls Tryz.prog 20 #[.bool false, .int .u64 1, .int .i64 0] w1 fun r w' => ∃ ad cap, r = .returned (.agg #[.bool false, .slice ad 1 cap, .int .i64 0]) ∧ Lim w' ad 1 cap 18446744073709551616 1 ∧ Gr w1 w') := fun w1 => small19 false 1 0 w1 (by omega) (by omega)
  have A6 : Hid (∀ w1, Calls Tryz.prog 20 #[.bool false, .int .u64 23, .int .i64 (-4)] w1 fun r w' => ∃ ad cap, r = .returned (.agg #[.bool false, .slice ad 1 cap, .int .i64 (-4)]) ∧ Lim w' ad 1 cap 18446744073709551616 23 ∧ Gr w1 w') := fun w1 => small19 false 23 (-4) w1 (by omega) (by omega)
  have AD : Hid (∀ a1 c1 a2 c2 w1, Gr w w1 → Lim w1 a1 1 c1 18446744073709551616 3 → Lim w1 a2 1 c2 18446744073709551616 1 → Calls Tryz.prog 23 #[.agg #[.bool false, .slice a1 1 c1, .int .i64 (-2)], .agg #[.bool false, .slice a2 1 c2, .int .i64 (-2)]] w1 fun r w' => ∃ s' ad n cap e', r = .returned (.tuple #[.agg #[.bool s', .slice ad n cap, .int .i64 e'], .int .i64 0]) ∧ Hid (DyV w' s' ad n cap e' (sv KK false 1 0)) ∧ Gr w1 w') := fun a1 c1 a2 c2 w1 g h1 h2 => by
    have := addG false false a1 a2 1 1 c1 c2 (-2) (-2) _ _ w1 20000 42560 ⟨3, ⟨h1, by omega, Or.inr ⟨1, rfl, by omega, by omega⟩⟩, rfl⟩ ⟨1, ⟨h2, by omega, Or.inr ⟨0, rfl, by omega, by omega⟩⟩, rfl⟩ (tab_gr hT g) (gd_of (n := 2) (by decide) (by omega) (by omega) (by omega)) (gd_of (n := 2) (by decide) (by omega) (by omega) (by omega)) (by omega) (by omega)
    rw [one_is] at this
    exact this
  have RT : Hid (∀ a1 c1 w1, Gr w w1 → Lim w1 a1 1 c1 18446744073709551616 1 → Calls Tryz.prog 14 #[.agg #[.bool false, .slice a1 1 c1, .int .i64 1], .int .i64 (-4), .bool true] w1 fun r w' => ∃ s' ad n cap e', r = .returned (.tuple #[.agg #[.bool s', .slice ad n cap, .int .i64 e'], .int .i64 0]) ∧ Hid (DyV w' s' ad n cap e' (sv KK false 23 (-4))) ∧ Gr w1 w') := fun a1 c1 w1 g h1 => root2 a1 c1 w1 h1 (tab_gr hT g)
  have FL : Hid (∀ a1 c1 w1, Lim w1 a1 1 c1 18446744073709551616 3 → Calls Tryz.prog 7 #[.agg #[.bool true, .slice a1 1 c1, .int .i64 (-1)]] w1 fun r w' => r = .returned (.tuple #[.float .f64 13832806255468478464, .int .i64 0]) ∧ Gr w1 w') := fun a1 c1 w1 h1 => float3 a1 c1 w1 h1
  clear hT
  have F1 : (FloatKind.f64.format.order 13832806255468478464 13832806255468478464 == some .eq) = true := by decide +kernel
  go_enter Tryz.func6, Tryz.ntmps6
  go_wp2_with (first | (go_at_call 20; (with_reducible refine (A1.out _).mono ?_); rintro r w1 ⟨ad1, k1, rfl, l1, g1⟩) | (go_at_call 20; (with_reducible refine (A2.out _).mono ?_); rintro r w2 ⟨ad2, k2, rfl, l2, g2⟩; have l1' := l1.gr g2) | (go_at_call 23; (with_reducible refine (AD.out _ _ _ _ _ (g1.trans g2) l1' l2).mono ?_); rintro r w3 ⟨s1, a1, n1, c1, e1, rfl, D1, g3⟩; have G3 := (((g1.trans g2).trans g3).alloc (.cells #[.bool s1, .slice a1 n1 c1, .int .i64 e1] 24)); clear g1 g2 g3 l1 l2 l1'; have D1' := D1.out.gr ((Gr.refl w3).alloc (.cells #[.bool s1, .slice a1 n1 c1, .int .i64 e1] 24)); have B1 : Hid _ := box_cells (w := w3) (a0 := .bool s1) (a1 := .slice a1 n1 c1) (a2 := .int .i64 e1)) | (go_at_call 20; (with_reducible refine (A3.out _).mono ?_); rintro r w4 ⟨ad4, k4, rfl, l4, g4⟩) | (go_at_call 14; (with_reducible refine (RT.out _ _ _ (G3.trans g4) l4).mono ?_); rintro r w5 ⟨s2, a2, n2, c2, e2, rfl, D2, g5⟩; have G5 := ((g4.trans g5).alloc (.cells #[.bool s2, .slice a2 n2 c2, .int .i64 e2] 24)); clear g4 g5 l4; have D2' := D2.out.gr ((Gr.refl w5).alloc (.cells #[.bool s2, .slice a2 n2 c2, .int .i64 e2] 24)); have B2 : Hid _ := box_cells (w := w5) (a0 := .bool s2) (a1 := .slice a2 n2 c2) (a2 := .int .i64 e2)) | (go_at_call 20; (with_reducible refine (A4.out _).mono ?_); rintro r w6 ⟨ad6, k6, rfl, l6, g6⟩) | (go_at_call 7; (with_reducible refine (FL.out _ _ _ l6).mono ?_); rintro r w7 ⟨rfl, g7⟩))
  have DA : Hid (DyV w7 s1 a1 n1 c1 e1 (sv KK false 1 0)) := ((D1'.gr G5).gr g6).gr g7
  have DB : Hid (DyV w7 s2 a2 n2 c2 e2 (sv KK false 23 (-4))) := (D2'.gr g6).gr g7
  have G7 : Hid (Gr w w7) := ((G3.trans G5).trans g6).trans g7
  have hS0 : (w7.drew.cell? ⟨w3.heap.size, 0, none⟩ = some (.bool s1) ∧ w7.drew.cell? ⟨w3.heap.size, 1, none⟩ = some (.slice a1 n1 c1) ∧ w7.drew.cell? ⟨w3.heap.size, 2, none⟩ = some (.int .i64 e1) ∧ w7.drew.cell? ⟨w5.heap.size, 0, none⟩ = some (.bool s2) ∧ w7.drew.cell? ⟨w5.heap.size, 1, none⟩ = some (.slice a2 n2 c2) ∧ w7.drew.cell? ⟨w5.heap.size, 2, none⟩ = some (.int .i64 e2)) ∧ Gr w7 w7.drew :=
    ⟨⟨g7.keep (g6.keep (G5.keep B1.out.1)), g7.keep (g6.keep (G5.keep B1.out.2.1)), g7.keep (g6.keep (G5.keep B1.out.2.2)), g7.keep (g6.keep B2.out.1), g7.keep (g6.keep B2.out.2.1), g7.keep (g6.keep B2.out.2.2)⟩, (Gr.refl w7).drew⟩
  clear D1 D2 D1' D2' B1 B2 l6 g6 g7 G3 G5 A1 A2 A3 A4 AD RT FL
  generalize w3.heap.size = pa at *
  generalize w5.heap.size = pb at *
  have I1 : Hid (∀ a4 c4 w1, Gr w7 w1 → Lim w1 a4 1 c4 18446744073709551616 1 → Calls Tryz.prog 12 #[.agg #[.bool s1, .slice a1 n1 c1, .int .i64 e1], .int .i64 0, .agg #[.bool false, .slice a4 1 c4, .int .i64 0], .int .i64 0] w1 fun r w' => r = .returned (.bool true) ∧ Gr w1 w') := fun a4 c4 w1 g h => is25 s1 false a1 a4 n1 1 c1 c4 e1 0 _ w1 (DA.out.gr g) ⟨1, ⟨h, by omega, Or.inr ⟨0, rfl, by omega, by omega⟩⟩, rfl⟩
  have I2 : Hid (∀ a4 c4 w1, Gr w7 w1 → Lim w1 a4 1 c4 18446744073709551616 23 → Calls Tryz.prog 12 #[.agg #[.bool s2, .slice a2 n2 c2, .int .i64 e2], .int .i64 0, .agg #[.bool false, .slice a4 1 c4, .int .i64 (-4)], .int .i64 0] w1 fun r w' => r = .returned (.bool true) ∧ Gr w1 w') := fun a4 c4 w1 g h => is25 s2 false a2 a4 n2 1 c2 c4 e2 (-4) _ w1 (DB.out.gr g) ⟨23, ⟨h, by omega, Or.inr ⟨11, rfl, by omega, by omega⟩⟩, rfl⟩
  go_region_held3 (fun w' => (w'.cell? ⟨pa, 0, none⟩ = some (.bool s1) ∧ w'.cell? ⟨pa, 1, none⟩ = some (.slice a1 n1 c1) ∧ w'.cell? ⟨pa, 2, none⟩ = some (.int .i64 e1) ∧ w'.cell? ⟨pb, 0, none⟩ = some (.bool s2) ∧ w'.cell? ⟨pb, 1, none⟩ = some (.slice a2 n2 c2) ∧ w'.cell? ⟨pb, 2, none⟩ = some (.int .i64 e2)) ∧ Gr w7 w') (first | (with_reducible assumption) | (apply keep6; (with_reducible assumption); (with_reducible assumption))) (first | (go_at_call 20; (with_reducible refine (A5.out _).mono ?_); rintro r w8 ⟨ad8, k8, rfl, l8, g8⟩) | (go_at_call 20; (with_reducible refine (A6.out _).mono ?_); rintro r w9 ⟨ad9, k9, rfl, l9, g9⟩) | (go_at_call 12; (with_reducible refine (I1.out _ _ _ ?gg l8).mono ?_); (case gg => exact And.right ‹_ ∧ Gr w7 _›); rintro r w10 ⟨rfl, g10⟩) | (go_at_call 12; (with_reducible refine (I2.out _ _ _ ?gg l9).mono ?_); (case gg => exact And.right ‹_ ∧ Gr w7 _›); rintro r w11 ⟨rfl, g11⟩))
  go_wp2
  go_ret
  exact ⟨rfl, G7.out.trans (((((Gr.refl w7).drew.trans g8).trans g10).trans g9).trans g11)⟩
end Go.Proofs.YtnmdnhmfmahjaaaGreatDoor
