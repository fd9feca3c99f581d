import Derived.Test.YtaofmkgfnhonaaaDoorXQ
namespace Go.Proofs.YtaofmkgfnhonaaaDoor
open Go.RowKit
set_option linter.unusedVariables false

open Ieee in
theorem mul_run (w : World) (x y r : Nat) (h : double.mul x y = some r) : (binOp .mul 38 (.float .f64 x) (.float .f64 y)).run Tryd.prog w = .ok (.float .f64 r) w :=
  run_float_arith (P := Tryd.prog) w .mul 38 .f64 x y r h
def nanB (x : Nat) : Bool := (FloatKind.f64.format.order x x != some .eq)
def absN (x : Nat) : Nat := (bits BinOp.andNot IntKind.u64 x 9223372036854775808).toNat
def pinfB (x : Nat) : Bool := FloatKind.f64.format.order x 9218868437227405311 == some .gt
def copyN (x y : Nat) : Nat := (bits BinOp.or IntKind.u64 (bits BinOp.andNot IntKind.u64 x 9223372036854775808) (bits BinOp.and IntKind.u64 y 9223372036854775808)).toNat
theorem fbits50 (x : Nat) (w : World) : (callFunc 51 #[.float .f64 x]).run Tryd.prog w = .ok (.value (.int .u64 x)) w := by
  kernel_rfl
theorem from68 (x : Int) (w : World) : (callFunc 50 #[.int .u64 x]).run Tryd.prog w = .ok (.value (.float .f64 x.toNat)) w := by
  kernel_rfl
theorem nan43 (x : Nat) (w : World) : Calls Tryd.prog 62 #[.float .f64 x] w fun e w' => e = .returned (.bool (nanB x)) ∧ w' = w := by
  go_enter Tryd.func62, Tryd.ntmps62
  go_wp2
  go_ret
  exact ⟨rfl, rfl⟩
theorem abs47 (x : Nat) (w : World) : Calls Tryd.prog 49 #[.float .f64 x] w fun e w' => e = .returned (.float .f64 (absN x)) ∧ w' = w := by
  have h1 := fbits50
  have h2 := from68
  go_enter Tryd.func49, Tryd.ntmps49
  go_wp2
  go_ret
  exact ⟨rfl, rfl⟩
theorem inf44 (x : Nat) (w : World) : Calls Tryd.prog 32 #[.float .f64 x, .int .i64 0] w fun e w' => e = .returned (.bool (pinfB (absN x))) ∧ w' = w := by
  go_enter Tryd.func32, Tryd.ntmps32
  go_wp2_with (go_at_call 49; refine (abs47 _ _).mono ?_; rintro e w' ⟨rfl, rfl⟩)
  go_ret
  exact ⟨rfl, rfl⟩
theorem copy49 (x y : Nat) (w : World) : Calls Tryd.prog 33 #[.float .f64 x, .float .f64 y] w fun e w' => e = .returned (.float .f64 (copyN x y)) ∧ w' = w := by
  have h1 := fbits50
  have h2 := from68
  go_enter Tryd.func33, Tryd.ntmps33
  go_wp2
  go_ret
  exact ⟨rfl, rfl⟩
theorem norm81 (x : Nat) (w : World) (h : (FloatKind.f64.format.order (absN x) 4503599627370496 == some .lt) = false) :
    Calls Tryd.prog 63 #[.float .f64 x] w fun e w' => e = .returned (.tuple #[.float .f64 x, .int .i64 0]) ∧ w' = w := by
  go_enter Tryd.func63, Tryd.ntmps63
  go_wp2_with (go_at_call 49; refine (abs47 _ _).mono ?_; rintro e w' ⟨rfl, rfl⟩)
  go_ret2
  exact ⟨rfl, rfl⟩
theorem ldexp67 (x f z y : Nat) (e k E S : Int) (w : World) (h0 : (FloatKind.f64.format.order x 0 == some .eq) = false) (h1 : pinfB (absN x) = false) (h2 : nanB x = false)
    (hn : ∀ w, Calls Tryd.prog 63 #[.float .f64 x] w fun e w' => e = .returned (.tuple #[.float .f64 f, .int .i64 k]) ∧ w' = w) (he1 : -5000 ≤ e) (he2 : e ≤ 5000) (hk1 : -52 ≤ k) (hk2 : k ≤ 0)
    (hE : bits BinOp.and IntKind.i64 (wrap64 (↑f / 4503599627370496)) 2047 = E) (hE1 : 0 ≤ E) (hE2 : E ≤ 2047) (hS : e + k + (E - 1023) = S) (hS1 : -1022 ≤ S) (hS2 : S ≤ 1023)
    (hc : bits BinOp.andNot IntKind.u64 (f : Int) 9218868437227405312 = (y : Int)) (hp : bits BinOp.or IntKind.u64 (y : Int) ((S + 1023) * 4503599627370496) = (z : Int)) (hr : Ieee.double.mul 4607182418800017408 z = some z) :
    Calls Tryd.prog 47 #[.float .f64 x, .int .i64 e] w fun e w' => e = .returned (.float .f64 z) ∧ w' = w := by
  have g := mul_run w _ _ _ hr
  clear hr
  have b1 := fbits50
  have b2 := from68
  have HN : Hid (∀ w, Calls Tryd.prog 63 #[.float .f64 x] w fun e w' => e = .returned (.tuple #[.float .f64 f, .int .i64 k]) ∧ w' = w) := hn
  clear hn
  subst hS
  go_enter Tryd.func47, Tryd.ntmps47
  go_wp2_with (first | (go_at_call 32; refine (inf44 _ _).mono ?_; rintro e w' ⟨rfl, rfl⟩) | (go_at_call 62; refine (nan43 _ _).mono ?_; rintro e w' ⟨rfl, rfl⟩) | (go_at_call 63; refine (HN.out _).mono ?_; rintro e w' ⟨rfl, rfl⟩))
  go_ret
  exact ⟨rfl, rfl⟩
theorem ldexp46 (x z : Nat) (e : Int) (w : World) (h : ∀ w, Calls Tryd.prog 47 #[.float .f64 x, .int .i64 e] w fun e w' => e = .returned (.float .f64 z) ∧ w' = w) :
    Calls Tryd.prog 30 #[.float .f64 x, .int .i64 e] w fun e w' => e = .returned (.float .f64 z) ∧ w' = w := by
  have H : Hid (∀ w, Calls Tryd.prog 47 #[.float .f64 x, .int .i64 e] w fun e w' => e = .returned (.float .f64 z) ∧ w' = w) := h
  clear h
  go_enter Tryd.func30, Tryd.ntmps30
  go_wp2_with (go_at_call 47; refine (H.out _).mono ?_; rintro e w' ⟨rfl, rfl⟩)
  go_ret
  exact ⟨rfl, rfl⟩
theorem ldexpC (w : World) : Calls Tryd.prog 30 #[.float .f64 4843621399236968448, .int .i64 (-52)] w fun e w' => e = .returned (.float .f64 4609434218613702656) ∧ w' = w :=
  ldexp46 _ _ _ w fun w => ldexp67 4843621399236968448 4843621399236968448 4609434218613702656 2251799813685248 (-52) 0 1075 0 w (by decide +kernel) (by decide +kernel) (by decide +kernel) (fun w => norm81 _ w (by decide +kernel)) (by omega) (by omega) (by omega) (by omega) (by decide +kernel) (by omega) (by omega) (by omega) (by omega) (by omega) (by decide +kernel) (by decide +kernel) (by decide +kernel)
theorem isInfC (w : World) : Calls Tryd.prog 32 #[.float .f64 4609434218613702656, .int .i64 0] w fun e w' => e = .returned (.bool false) ∧ w' = w := by
  have := inf44 4609434218613702656 w
  rw [show pinfB (absN 4609434218613702656) = false by decide +kernel] at this
  exact this
theorem copysignC (w : World) : Calls Tryd.prog 33 #[.float .f64 4609434218613702656, .float .f64 13830554455654793216] w fun e w' => e = .returned (.float .f64 13832806255468478464) ∧ w' = w := by
  have := copy49 4609434218613702656 13830554455654793216 w
  rw [show copyN 4609434218613702656 13830554455654793216 = 13832806255468478464 by decide +kernel] at this
  exact this
set_option maxHeartbeats 800000 in
theorem nearest3 (ad : Option Addr) (cap : Nat) (w : World) (hx : Lim w ad 1 cap 18446744073709551616 3) :
    Calls Tryd.prog 31 #[.slice ad 1 cap, .int .i64 (-51)] w fun r w' => r = .returned (.int .u64 6755399441055744) ∧ Gr w w' := by
  have H42 : Hid (Calls Tryd.prog 19 #[.slice ad 1 cap, .int .i64 51] w fun r w' => ∃ p o cap', r = .returned (.slice (some ⟨p, o, none⟩) 1 cap') ∧ 1 ≤ cap' ∧ cap' ≤ 9223372036854775807 ∧ w'.cell? ⟨p, o, none⟩ = some (.int .u64 6755399441055744) ∧ Gr w w') := by
    refine (shift42 ad 1 cap 3 51 w hx (by omega) (by omega)).mono ?_
    rintro r w' ⟨a, n, c, rfl, h2, h3, h4⟩
    have h3 : Lim w' a n c 18446744073709551616 6755399441055744 := h3
    obtain rfl : n = 1 := lim_one h3 (by omega) (by omega)
    obtain ⟨xs, rx, dx⟩ := h3
    obtain ⟨v, rfl⟩ : ∃ v, xs = [v] := by
      have := rx.len
      match xs, this with
      | [v], _ => exact ⟨v, rfl⟩
    have hv : v = 6755399441055744 := by have := dx.1; simpa [nv] using this
    subst hv
    obtain ⟨p1, o1, rfl, hp1, hc1⟩ := rx.cells (by omega)
    have hc0 := hc1 0 (by omega)
    exact ⟨p1, o1, c, rfl, rx.le, rx.max, hc0, h4⟩
  clear hx
  go_enter Tryd.func31, Tryd.ntmps31
  go_wp2_with (go_at_call 19; (with_reducible refine H42.out.mono ?_); rintro r w1 ⟨p, o, c1, rfl, hc, hm, hcell, g1⟩)
  go_ret
  exact ⟨rfl, g1⟩
theorem keep4 {W wo wn : World} {p : Nat} {a0 a1 a2 : Value} (g : Gr wo wn) (h : (wo.cell? ⟨p, 0, none⟩ = some a0 ∧ wo.cell? ⟨p, 1, none⟩ = some a1 ∧ wo.cell? ⟨p, 2, none⟩ = some a2) ∧ Gr W wo) :
    (wn.cell? ⟨p, 0, none⟩ = some a0 ∧ wn.cell? ⟨p, 1, none⟩ = some a1 ∧ wn.cell? ⟨p, 2, none⟩ = some a2) ∧ Gr W wn :=
  ⟨⟨g.keep h.1.1, g.keep h.1.2.1, g.keep h.1.2.2⟩, h.2.trans g⟩
set_option maxHeartbeats 1600000 in
/-- Float, of -3/2 -/
theorem float3 (ad : Option Addr) (cap : Nat) (w : World) (hx : Lim w ad 1 cap 18446744073709551616 3) :
    Calls Tryd.prog 13 #[.agg #[.bool true, .slice ad 1 cap, .int .i64 (-1)]] w fun r w' => r = .returned (.tuple #[.float .f64 13832806255468478464, .int .i64 0]) ∧ Gr w w' := by
  have dx : DyAt w true ad 1 cap (-1) 3 := ⟨hx, by omega, Or.inr ⟨1, rfl, by omega, by omega⟩⟩
  have R := dx.r26
  have H40 : Hid (∀ w1, Gr w w1 → Calls Tryd.prog 17 #[.slice ad 1 cap] w1 fun r w' => r = .returned (.int .i64 2) ∧ Gr w1 w') := fun w1 g => by
    have := bitLength40 ad 1 cap 3 w1 (hx.gr g) (by omega) (by omega)
    rw [show bl 3 = 2 from bl_unique (by decide) (by decide)] at this
    exact this
  have H48 : Hid (∀ w1, Gr w w1 → Calls Tryd.prog 31 #[.slice ad 1 cap, .int .i64 (-51)] w1 fun r w' => r = .returned (.int .u64 6755399441055744) ∧ Gr w1 w') := fun w1 g => nearest3 ad cap w1 (hx.gr g)
  have A46 : Hid (∀ w, Calls Tryd.prog 30 #[.float .f64 (floatOfInt FloatKind.f64 6755399441055744), .int .i64 (-52)] w fun e w' => e = .returned (.float .f64 4609434218613702656) ∧ w' = w) := by
    rw [show floatOfInt FloatKind.f64 6755399441055744 = 4843621399236968448 by decide +kernel]
    exact ldexpC
  have A44 : Hid (∀ w, Calls Tryd.prog 32 #[.float .f64 4609434218613702656, .int .i64 0] w fun e w' => e = .returned (.bool false) ∧ w' = w) := isInfC
  have A49 : Hid (∀ w, Calls Tryd.prog 33 #[.float .f64 4609434218613702656, .float .f64 13830554455654793216] w fun e w' => e = .returned (.float .f64 13832806255468478464) ∧ w' = w) := copysignC
  clear hx dx
  go_enter Tryd.func13, Tryd.ntmps13
  go_wp2_with (first | (go_at_call 15; (with_reducible refine (R.out _ ((Gr.refl w).alloc _)).mono ?_); rintro r w1 ⟨rfl, g1⟩; have k0 : w1.cell? ⟨w.heap.size, 0, none⟩ = some (.bool true) := g1.keep (by simp); have k1 : w1.cell? ⟨w.heap.size, 1, none⟩ = some (.slice ad 1 cap) := g1.keep (by simp); have k2 : w1.cell? ⟨w.heap.size, 2, none⟩ = some (.int .i64 (-1)) := g1.keep (by simp); have G1 := ((Gr.refl w).alloc (.cells #[.bool true, .slice ad 1 cap, .int .i64 (-1)] 24)).trans g1))
  have hS0 : (w1.drew.cell? ⟨w.heap.size, 0, none⟩ = some (.bool true) ∧ w1.drew.cell? ⟨w.heap.size, 1, none⟩ = some (.slice ad 1 cap) ∧ w1.drew.cell? ⟨w.heap.size, 2, none⟩ = some (.int .i64 (-1))) ∧ Gr w w1.drew := ⟨⟨k0, k1, k2⟩, G1.drew⟩
  clear k0 k1 k2 g1 G1
  go_region_held3 (fun w' => (w'.cell? ⟨w.heap.size, 0, none⟩ = some (.bool true) ∧ w'.cell? ⟨w.heap.size, 1, none⟩ = some (.slice ad 1 cap) ∧ w'.cell? ⟨w.heap.size, 2, none⟩ = some (.int .i64 (-1))) ∧ Gr w w') (first | (with_reducible assumption) | (apply keep4; (with_reducible assumption); (with_reducible assumption))) (first | (go_at_call 17; (with_reducible refine (H40.out _ ?gg).mono ?_); (case gg => exact And.right ‹_ ∧ Gr w _›); rintro r w2 ⟨rfl, g2⟩))
  rw [show max (IntKind.i64.wrap (IntKind.i64.wrap 1 - 53)) (-1074) = -52 by decide +kernel]
  have hS1 := keep4 g2 hS0
  clear hS0 g2
  have k0 := hS1.1.1
  have k1 := hS1.1.2.1
  have k2 := hS1.1.2.2
  have G2 := hS1.2
  go_wp2_with (first | (go_at_call 31; (with_reducible refine (H48.out _ G2).mono ?_); rintro r w3 ⟨rfl, g3⟩; have j0 := g3.keep k0) | (go_at_call 30; (with_reducible refine (A46.out _).mono ?_); rintro r w4 ⟨rfl, rfl⟩) | (go_at_call 32; (with_reducible refine (A44.out _).mono ?_); rintro r w4 ⟨rfl, rfl⟩) | (go_at_call 33; (with_reducible refine (A49.out _).mono ?_); rintro r w4 ⟨rfl, rfl⟩))
  refine bodyPost_ret (v := .tuple #[.float .f64 13832806255468478464, .int .i64 0]) (by simp [results, Tryd.results13, go_sem]) rfl ⟨rfl, G2.trans g3⟩
end Go.Proofs.YtaofmkgfnhonaaaDoor
