import Derived.Test.YtlhpkflknfmjcaaGreatDoorM19
namespace Go.Proofs.YtlhpkflknfmjcaaGreatDoor
open Go.RowKit
set_option linter.unusedVariables false

open Ieee in
theorem mul_run (w : World) (x y r : Nat) (h : double.mul x y = some r) : (binOp .mul 41 (.float .f64 x) (.float .f64 y)).run Tryz.prog w = .ok (.float .f64 r) w :=
  run_float_arith (P := Tryz.prog) w .mul 41 .f64 x y r h
def nanB (x : Nat) : Bool := (FloatKind.f64.format.order x x != some .eq)
def absN (x : Nat) : Nat := (bits BinOp.andNot IntKind.u64 x 9223372036854775808).toNat
def pinfB (x : Nat) : Bool := FloatKind.f64.format.order x 9218868437227405311 == some .gt
def copyN (x y : Nat) : Nat := (bits BinOp.or IntKind.u64 (bits BinOp.andNot IntKind.u64 x 9223372036854775808) (bits BinOp.and IntKind.u64 y 9223372036854775808)).toNat
theorem fbits50 (x : Nat) (w : World) : (callFunc 63 #[.float .f64 x]).run Tryz.prog w = .ok (.value (.int .u64 x)) w := by
  kernel_rfl
theorem from68 (x : Int) (w : World) : (callFunc 65 #[.int .u64 x]).run Tryz.prog w = .ok (.value (.float .f64 x.toNat)) w := by
  kernel_rfl
theorem nan43 (x : Nat) (w : World) : Calls Tryz.prog 147 #[.float .f64 x] w fun e w' => e = .returned (.bool (nanB x)) ∧ w' = w := by
  go_enter Tryz.func147, Tryz.ntmps147
  go_wp2
  go_ret
  exact ⟨rfl, rfl⟩
theorem abs47 (x : Nat) (w : World) : Calls Tryz.prog 55 #[.float .f64 x] w fun e w' => e = .returned (.float .f64 (absN x)) ∧ w' = w := by
  have h1 := fbits50
  have h2 := from68
  go_enter Tryz.func55, Tryz.ntmps55
  go_wp2
  go_ret
  exact ⟨rfl, rfl⟩
theorem inf44 (x : Nat) (w : World) : Calls Tryz.prog 164 #[.float .f64 x, .int .i64 0] w fun e w' => e = .returned (.bool (pinfB (absN x))) ∧ w' = w := by
  go_enter Tryz.func164, Tryz.ntmps164
  go_wp2_with (go_at_call 55; refine (abs47 _ _).mono ?_; rintro e w' ⟨rfl, rfl⟩)
  go_ret
  exact ⟨rfl, rfl⟩
theorem copy49 (x y : Nat) (w : World) : Calls Tryz.prog 165 #[.float .f64 x, .float .f64 y] w fun e w' => e = .returned (.float .f64 (copyN x y)) ∧ w' = w := by
  have h1 := fbits50
  have h2 := from68
  go_enter Tryz.func165, Tryz.ntmps165
  go_wp2
  go_ret
  exact ⟨rfl, rfl⟩
theorem norm81 (x : Nat) (w : World) (h : (FloatKind.f64.format.order (absN x) 4503599627370496 == some .lt) = false) :
    Calls Tryz.prog 169 #[.float .f64 x] w fun e w' => e = .returned (.tuple #[.float .f64 x, .int .i64 0]) ∧ w' = w := by
  go_enter Tryz.func169, Tryz.ntmps169
  go_wp2_with (go_at_call 55; refine (abs47 _ _).mono ?_; rintro e w' ⟨rfl, rfl⟩)
  go_ret2
  exact ⟨rfl, rfl⟩
theorem ldexp67 (x f z y : Nat) (e k E S : Int) (w : World) (h0 : (FloatKind.f64.format.order x 0 == some .eq) = false) (h1 : pinfB (absN x) = false) (h2 : nanB x = false)
    (hn : ∀ w, Calls Tryz.prog 169 #[.float .f64 x] w fun e w' => e = .returned (.tuple #[.float .f64 f, .int .i64 k]) ∧ w' = w) (he1 : -5000 ≤ e) (he2 : e ≤ 5000) (hk1 : -52 ≤ k) (hk2 : k ≤ 0)
    (hE : bits BinOp.and IntKind.i64 (wrap64 (↑f / 4503599627370496)) 2047 = E) (hE1 : 0 ≤ E) (hE2 : E ≤ 2047) (hS : e + k + (E - 1023) = S) (hS1 : -1022 ≤ S) (hS2 : S ≤ 1023)
    (hc : bits BinOp.andNot IntKind.u64 (f : Int) 9218868437227405312 = (y : Int)) (hp : bits BinOp.or IntKind.u64 (y : Int) ((S + 1023) * 4503599627370496) = (z : Int)) (hr : Ieee.double.mul 4607182418800017408 z = some z) :
    Calls Tryz.prog 152 #[.float .f64 x, .int .i64 e] w fun e w' => e = .returned (.float .f64 z) ∧ w' = w := by
  have g := mul_run w _ _ _ hr
  clear hr
  have b1 := fbits50
  have b2 := from68
  have HN : Hid (∀ w, Calls Tryz.prog 169 #[.float .f64 x] w fun e w' => e = .returned (.tuple #[.float .f64 f, .int .i64 k]) ∧ w' = w) := hn
  clear hn
  subst hS
  go_enter Tryz.func152, Tryz.ntmps152
  go_wp2_with (first | (go_at_call 164; refine (inf44 _ _).mono ?_; rintro e w' ⟨rfl, rfl⟩) | (go_at_call 147; refine (nan43 _ _).mono ?_; rintro e w' ⟨rfl, rfl⟩) | (go_at_call 169; refine (HN.out _).mono ?_; rintro e w' ⟨rfl, rfl⟩))
  go_ret
  exact ⟨rfl, rfl⟩
theorem ldexp46 (x z : Nat) (e : Int) (w : World) (h : ∀ w, Calls Tryz.prog 152 #[.float .f64 x, .int .i64 e] w fun e w' => e = .returned (.float .f64 z) ∧ w' = w) :
    Calls Tryz.prog 133 #[.float .f64 x, .int .i64 e] w fun e w' => e = .returned (.float .f64 z) ∧ w' = w := by
  have H : Hid (∀ w, Calls Tryz.prog 152 #[.float .f64 x, .int .i64 e] w fun e w' => e = .returned (.float .f64 z) ∧ w' = w) := h
  clear h
  go_enter Tryz.func133, Tryz.ntmps133
  go_wp2_with (go_at_call 152; refine (H.out _).mono ?_; rintro e w' ⟨rfl, rfl⟩)
  go_ret
  exact ⟨rfl, rfl⟩
theorem ldexpC (w : World) : Calls Tryz.prog 133 #[.float .f64 4843621399236968448, .int .i64 (-52)] w fun e w' => e = .returned (.float .f64 4609434218613702656) ∧ w' = w :=
  ldexp46 _ _ _ w fun w => ldexp67 4843621399236968448 4843621399236968448 4609434218613702656 2251799813685248 (-52) 0 1075 0 w (by decide +kernel) (by decide +kernel) (by decide +kernel) (fun w => norm81 _ w (by decide +kernel)) (by omega) (by omega) (by omega) (by omega) (by decide +kernel) (by omega) (by omega) (by omega) (by omega) (by omega) (by decide +kernel) (by decide +kernel) (by decide +kernel)
theorem isInfC (w : World) : Calls Tryz.prog 164 #[.float .f64 4609434218613702656, .int .i64 0] w fun e w' => e = .returned (.bool false) ∧ w' = w := by
  have := inf44 4609434218613702656 w
  rw [show pinfB (absN 4609434218613702656) = false by decide +kernel] at this
  exact this
theorem copysignC (w : World) : Calls Tryz.prog 165 #[.float .f64 4609434218613702656, .float .f64 13830554455654793216] w fun e w' => e = .returned (.float .f64 13832806255468478464) ∧ w' = w := by
  have := copy49 4609434218613702656 13830554455654793216 w
  rw [show copyN 4609434218613702656 13830554455654793216 = 13832806255468478464 by decide +kernel] at this
  exact this
set_option maxHeartbeats 800000 in
theorem nearest3 (ad : Option Addr) (cap : Nat) (w : World) (hx : Lim w ad 1 cap 18446744073709551616 3) :
    Calls Tryz.prog 163 #[.slice ad 1 cap, .int .i64 (-51)] w fun r w' => r = .returned (.int .u64 6755399441055744) ∧ Gr w w' := by
  have H42 : Hid (Calls Tryz.prog 180 #[.slice ad 1 cap, .int .i64 51] w fun r w' => ∃ p o cap', r = .returned (.slice (some ⟨p, o, none⟩) 1 cap') ∧ 1 ≤ cap' ∧ cap' ≤ 9223372036854775807 ∧ w'.cell? ⟨p, o, none⟩ = some (.int .u64 6755399441055744) ∧ Gr w w') := by
    refine (shift42 ad 1 cap 3 51 w hx (by omega) (by omega)).mono ?_
    rintro r w' ⟨a, n, c, rfl, h2, h3, h4⟩
    have h3 : Lim w' a n c 18446744073709551616 6755399441055744 := h3
    obtain rfl : n = 1 := lim_one h3 (by omega) (by omega)
    obtain ⟨xs, rx, dx⟩ := h3
    obtain ⟨v, rfl⟩ : ∃ v, xs = [v] := by
      have := rx.len
      match xs, this with
      | [v], _ => exact ⟨v, rfl⟩
    have hv : v = 6755399441055744 := by have := dx.1; simpa [nv] using this
    subst hv
    obtain ⟨p1, o1, rfl, hp1, hc1⟩ := rx.cells (by omega)
    have hc0 := hc1 0 (by omega)
    exact ⟨p1, o1, c, rfl, rx.le, rx.max, hc0, h4⟩
  clear hx
  go_enter Tryz.func163, Tryz.ntmps163
  go_wp2_with (go_at_call 180; (with_reducible refine H42.out.mono ?_); rintro r w1 ⟨p, o, c1, rfl, hc, hm, hcell, g1⟩)
  go_ret
  exact ⟨rfl, g1⟩
theorem keep4 {W wo wn : World} {p : Nat} {a0 a1 a2 : Value} (g : Gr wo wn) (h : (wo.cell? ⟨p, 0, none⟩ = some a0 ∧ wo.cell? ⟨p, 1, none⟩ = some a1 ∧ wo.cell? ⟨p, 2, none⟩ = some a2) ∧ Gr W wo) :
    (wn.cell? ⟨p, 0, none⟩ = some a0 ∧ wn.cell? ⟨p, 1, none⟩ = some a1 ∧ wn.cell? ⟨p, 2, none⟩ = some a2) ∧ Gr W wn :=
  ⟨⟨g.keep h.1.1, g.keep h.1.2.1, g.keep h.1.2.2⟩, h.2.trans g⟩
set_option maxHeartbeats 1600000 in
/-- Float, of -3/2 -/
theorem float3 (ad : Option Addr) (cap : Nat) (w : World) (hx : Lim w ad 1 cap 18446744073709551616 3) :
    Calls Tryz.prog 143 #[.agg #[.bool true, .slice ad 1 cap, .int .i64 (-1)]] w fun r w' => r = .returned (.tuple #[.float .f64 13832806255468478464, .int .i64 0]) ∧ Gr w w' := by
  have dx : DyAt w true ad 1 cap (-1) 3 := ⟨hx, by omega, Or.inr ⟨1, rfl, by omega, by omega⟩⟩
  have R := dx.r26
  have H40 : Hid (∀ w1, Gr w w1 → Calls Tryz.prog 162 #[.slice ad 1 cap] w1 fun r w' => r = .returned (.int .i64 2) ∧ Gr w1 w') := fun w1 g => by
    have := bitLength40 ad 1 cap 3 w1 (hx.gr g) (by omega) (by omega)
    rw [show bl 3 = 2 from bl_unique (by decide) (by decide)] at this
    exact this
  have H48 : Hid (∀ w1, Gr w w1 → Calls Tryz.prog 163 #[.slice ad 1 cap, .int .i64 (-51)] w1 fun r w' => r = .returned (.int .u64 6755399441055744) ∧ Gr w1 w') := fun w1 g => nearest3 ad cap w1 (hx.gr g)
  have A46 : Hid (∀ w, Calls Tryz.prog 133 #[.float .f64 (floatOfInt FloatKind.f64 6755399441055744), .int .i64 (-52)] w fun e w' => e = .returned (.float .f64 4609434218613702656) ∧ w' = w) := by
    rw [show floatOfInt FloatKind.f64 6755399441055744 = 4843621399236968448 by decide +kernel]
    exact ldexpC
  have A44 : Hid (∀ w, Calls Tryz.prog 164 #[.float .f64 4609434218613702656, .int .i64 0] w fun e w' => e = .returned (.bool false) ∧ w' = w) := isInfC
  have A49 : Hid (∀ w, Calls Tryz.prog 165 #[.float .f64 4609434218613702656, .float .f64 13830554455654793216] w fun e w' => e = .returned (.float .f64 13832806255468478464) ∧ w' = w) := copysignC
  clear hx dx
  go_enter Tryz.func143, Tryz.ntmps143
  go_wp2_with (first | (go_at_call 161; (with_reducible refine (R.out _ ((Gr.refl w).alloc _)).mono ?_); rintro r w1 ⟨rfl, g1⟩; have k0 : w1.cell? ⟨w.heap.size, 0, none⟩ = some (.bool true) := g1.keep (by simp); have k1 : w1.cell? ⟨w.heap.size, 1, none⟩ = some (.slice ad 1 cap) := g1.keep (by simp); have k2 : w1.cell? ⟨w.heap.size, 2, none⟩ = some (.int .i64 (-1)) := g1.keep (by simp); have G1 := ((Gr.refl w).alloc (.cells #[.bool true, .slice ad 1 cap, .int .i64 (-1)] 121)).trans g1))
  have hS0 : (w1.drew.cell? ⟨w.heap.size, 0, none⟩ = some (.bool true) ∧ w1.drew.cell? ⟨w.heap.size, 1, none⟩ = some (.slice ad 1 cap) ∧ w1.drew.cell? ⟨w.heap.size, 2, none⟩ = some (.int .i64 (-1))) ∧ Gr w w1.drew := ⟨⟨k0, k1, k2⟩, G1.drew⟩
  clear k0 k1 k2 g1 G1
  go_region_held3 (fun w' => (w'.cell? ⟨w.heap.size, 0, none⟩ = some (.bool true) ∧ w'.cell? ⟨w.heap.size, 1, none⟩ = some (.slice ad 1 cap) ∧ w'.cell? ⟨w.heap.size, 2, none⟩ = some (.int .i64 (-1))) ∧ Gr w w') (first | (with_reducible assumption) | (apply keep4; (with_reducible assumption); (with_reducible assumption))) (first | (go_at_call 162; (with_reducible refine (H40.out _ ?gg).mono ?_); (case gg => exact And.right ‹_ ∧ Gr w _›); rintro r w2 ⟨rfl, g2⟩))
  rw [show max (IntKind.i64.wrap (IntKind.i64.wrap 1 - 53)) (-1074) = -52 by decide +kernel]
  have hS1 := keep4 g2 hS0
  clear hS0 g2
  have k0 := hS1.1.1
  have k1 := hS1.1.2.1
  have k2 := hS1.1.2.2
  have G2 := hS1.2
  go_wp2_with (first | (go_at_call 163; (with_reducible refine (H48.out _ G2).mono ?_); rintro r w3 ⟨rfl, g3⟩; have j0 := g3.keep k0) | (go_at_call 133; (with_reducible refine (A46.out _).mono ?_); rintro r w4 ⟨rfl, rfl⟩) | (go_at_call 164; (with_reducible refine (A44.out _).mono ?_); rintro r w4 ⟨rfl, rfl⟩) | (go_at_call 165; (with_reducible refine (A49.out _).mono ?_); rintro r w4 ⟨rfl, rfl⟩))
  refine bodyPost_ret (v := .tuple #[.float .f64 13832806255468478464, .int .i64 0]) (by simp [results, Tryz.results143, go_sem]) rfl ⟨rfl, G2.trans g3⟩
end Go.Proofs.YtlhpkflknfmjcaaGreatDoor
namespace Go.Proofs.YtlhpkflknfmjcaaGreatDoor
open Go.RowKit
set_option linter.unusedVariables false

theorem ret_bool' {a b : Bool} (h : a = b) : Ending.returned (.bool a) = .returned (.bool b) := by rw [h]
def bitB (x p : Nat) : Bool := decide (x / 2 ^ p % 2 = 1)
theorem bit_of {x q r : Nat} {xs : List Nat} (h : Dg 18446744073709551616 x xs) (hq : q < xs.length) (hr : r < 64) : x / 2 ^ (64 * q + r) % 2 = xs.getD q 0 / 2 ^ r % 2 := by
  have h1 := nv_split 18446744073709551616 xs q hq
  rw [h.1] at h1
  have hlt : nv 18446744073709551616 (xs.take q) < 18446744073709551616 ^ q := by
    have := nv_lt 18446744073709551616 (xs.take q) (fun y hy => h.2.1 y (List.mem_of_mem_take hy))
    rwa [List.length_take, Nat.min_eq_left (by omega)] at this
  have h2 : x / 18446744073709551616 ^ q = xs.getD q 0 + 18446744073709551616 * nv 18446744073709551616 (xs.drop (q + 1)) := by
    rw [h1, Nat.add_mul_div_left _ _ (Nat.pow_pos (by omega)), Nat.div_eq_of_lt hlt, Nat.zero_add]
  rw [Nat.pow_add, ← Nat.div_div_eq_div_mul, ← pow64, h2]
  generalize xs.getD q 0 = v
  generalize nv 18446744073709551616 (xs.drop (q + 1)) = T
  have e : 18446744073709551616 * T = 2 ^ r * (2 * (2 ^ (63 - r) * T)) := by
    rw [two64 hr, show 64 - r = 63 - r + 1 by omega, Nat.pow_succ]; ac_rfl
  rw [e, Nat.add_mul_div_left _ _ (Nat.two_pow_pos r)]
  omega
set_option maxHeartbeats 1600000 in
theorem bitAt69 (ad : Option Addr) (n cap x p : Nat) (w : World) (hx : Lim w ad n cap 18446744073709551616 x) (hn : n ≤ 1099511627776) (hp : p ≤ 1099511627776) :
    Calls Tryz.prog 181 #[.slice ad n cap, .int .i64 (p : Int)] w fun r w' => r = .returned (.bool (bitB x p)) ∧ w' = w := by
  obtain ⟨xs, rx, dx⟩ := hx
  have hle := rx.le
  have hmax := rx.max
  obtain ⟨q, hq⟩ : ∃ q, q = p / 64 := ⟨_, rfl⟩
  obtain ⟨r, hr⟩ : ∃ r, r = p % 64 := ⟨_, rfl⟩
  have hr64 : r < 64 := by omega
  have HN : Hid (p = 64 * q + r) := by show _ = _; omega
  have eq : (p : Int) / 64 = (q : Int) := by omega
  have er : (p : Int) % 64 = (r : Int) := by omega
  clear hq hr
  by_cases hbig : n ≤ q
  · have fin : Hid (bitB x p = false) := by
      show _ = _
      have h1 := dx.upper
      rw [rx.len, pow64] at h1
      have : x / 2 ^ p = 0 := Nat.div_eq_of_lt (Nat.lt_of_lt_of_le h1 (Nat.pow_le_pow_right (by omega) (by have := HN.out; omega)))
      unfold bitB
      rw [this]; rfl
    have hb : ¬ (q : Int) < (n : Int) := by omega
    rw [fin.out]
    clear rx dx
    go_enter Tryz.func181, Tryz.ntmps181
    go_wp2
    go_ret
    exact ⟨rfl, rfl⟩
  · obtain ⟨p1, o1, rfl, hp1, hc1⟩ := rx.lt (by omega)
    have hcell := hc1 w (Gr.refl w) q (by omega)
    have fin : Hid (bitB x p = decide (xs.getD q 0 / 2 ^ r % 2 = 1)) := by
      show _ = _
      unfold bitB
      rw [HN.out, bit_of dx (by rw [rx.len]; omega) hr64]
    have hb : (q : Int) < (n : Int) := by omega
    have hv := getD_lt (by omega) dx.2.1 q
    rw [fin.out]
    clear rx dx hc1
    generalize xs.getD q 0 = v at *
    go_enter Tryz.func181, Tryz.ntmps181
    go_wp2_with (simp only [er])
    go_ret
    refine ⟨ret_bool' ?_, rfl⟩
    rw [show (v : Int) / 2 ^ r = ((v / 2 ^ r : Nat) : Int) by simp, and_one (Nat.lt_of_le_of_lt (Nat.div_le_self _ _) hv)]
    by_cases h : v / 2 ^ r % 2 = 1
    · rw [h]; rfl
    · rw [show v / 2 ^ r % 2 = 0 by omega]; rfl
set_option maxHeartbeats 1600000 in
theorem shift42n (ad : Option Addr) (n cap x b : Nat) (w : World) (hx : Lim w ad n cap 18446744073709551616 x) (b1 : n ≤ 1099511627776) (b0 : 0 < b) (hb : b ≤ 1099511627776) :
    Calls Tryz.prog 180 #[.slice ad n cap, .int .i64 (-(b : Int))] w fun e w' => ∃ ad' n' cap', e = .returned (.slice ad' n' cap') ∧ n' ≤ n ∧ Lim w' ad' n' cap' 18446744073709551616 (x / 2 ^ b) ∧ Gr w w' := by
  have H : Hid (Calls Tryz.prog 191 #[.slice ad n cap, .int .i64 (b : Int)] w fun e w' => ∃ ad' n' cap', e = .returned (.slice ad' n' cap') ∧ n' ≤ n ∧ Lim w' ad' n' cap' 18446744073709551616 (x / 2 ^ b) ∧ Gr w w') := shiftDown37 ad n cap x b w hx b1 (by omega)
  have h0 : -(b : Int) < 0 := by omega
  clear hx
  go_enter Tryz.func180, Tryz.ntmps180
  go_wp2_with (go_at_call 191; (with_reducible refine H.out.mono ?_); rintro r w3 ⟨a3, n3, c3, rfl, hn3, hl3, g3⟩)
  go_ret
  exact ⟨_, _, _, rfl, hn3, hl3, g3⟩
end Go.Proofs.YtlhpkflknfmjcaaGreatDoor
namespace Go.Proofs.YtlhpkflknfmjcaaGreatDoor
open Go.RowKit
set_option linter.unusedVariables false

/-- is it rounded up: an odd number over 2 to the power b -/
def upB (x b : Nat) : Bool := bitB x (b - 1) && (decide (1 < b) || decide (x / 2 ^ b % 2 = 1))
/-- one limb, or none -/
theorem lim_head {w : World} {ad : Option Addr} {n cap x : Nat} (h : Lim w ad n cap 18446744073709551616 x) (h1 : x < 18446744073709551616) : (x = 0 ∧ n = 0) ∨ (0 < x ∧ n = 1 ∧ ∃ p o, ad = some ⟨p, o, none⟩ ∧ 1 ≤ cap ∧ cap ≤ 9223372036854775807 ∧ w.cell? ⟨p, o, none⟩ = some (.int .u64 (x : Int))) := by
  by_cases h0 : x = 0
  · subst h0
    obtain ⟨xs, rx, dx⟩ := h
    exact Or.inl ⟨rfl, by rw [← rx.len]; exact (dx.zero_iff (by omega)).2 rfl⟩
  · obtain rfl : n = 1 := lim_one h (by omega) h1
    obtain ⟨xs, rx, dx⟩ := h
    obtain ⟨v, rfl⟩ : ∃ v, xs = [v] := by
      have := rx.len
      match xs, this with
      | [v], _ => exact ⟨v, rfl⟩
    have hv : v = x := by have := dx.1; simpa [nv] using this
    subst hv
    obtain ⟨p1, o1, rfl, hp1, hc1⟩ := rx.cells (by omega)
    have hc0 := hc1 0 (by omega)
    exact Or.inr ⟨by omega, rfl, p1, o1, rfl, rx.le, rx.max, hc0⟩
theorem par_one {v : Nat} (h : v < 18446744073709551616) : (bits BinOp.and IntKind.u64 (v : Int) 1 == 1) = decide (v % 2 = 1) := by
  rw [and_one h]
  by_cases h : v % 2 = 1
  · rw [h]; rfl
  · rw [show v % 2 = 0 by omega]; rfl
set_option maxHeartbeats 3200000 in
theorem nearest48p (ad : Option Addr) (n cap x b : Nat) (w : World) (hx : Lim w ad n cap 18446744073709551616 x) (b1 : n ≤ 1099511627776) (b0 : 0 < b) (hb : b ≤ 1099511627776) (hv : x / 2 ^ b + 1 < 18446744073709551616) :
    Calls Tryz.prog 163 #[.slice ad n cap, .int .i64 (b : Int)] w fun r w' => r = .returned (.int .u64 ((x / 2 ^ b + (upB x b).toNat : Nat) : Int)) ∧ Gr w w' := by
  have H42 : Hid (Calls Tryz.prog 180 #[.slice ad n cap, .int .i64 (-(b : Int))] w fun r w' => ∃ ad' n' cap', r = .returned (.slice ad' n' cap') ∧ ((x / 2 ^ b = 0 ∧ n' = 0) ∨ (0 < x / 2 ^ b ∧ n' = 1 ∧ ∃ p o, ad' = some ⟨p, o, none⟩ ∧ 1 ≤ cap' ∧ cap' ≤ 9223372036854775807 ∧ w'.cell? ⟨p, o, none⟩ = some (.int .u64 ((x / 2 ^ b : Nat) : Int)))) ∧ Gr w w') := by
    refine Calls.mono (shift42n ad n cap x b w hx b1 b0 hb) ?_
    rintro r w' ⟨a, m, c, rfl, h2, h3, h4⟩
    exact ⟨a, m, c, rfl, lim_head h3 (by omega), h4⟩
  have H69 : Hid (∀ w1, Gr w w1 → Calls Tryz.prog 181 #[.slice ad n cap, .int .i64 ((b : Int) - 1)] w1 fun r w' => r = .returned (.bool (bitB x (b - 1))) ∧ w' = w1) := fun w1 g => by
    have := bitAt69 ad n cap x (b - 1) w1 (hx.gr g) b1 (by omega)
    rw [show ((b - 1 : Nat) : Int) = (b : Int) - 1 by omega] at this
    exact this
  clear hx
  unfold upB
  have hpar := par_one (v := x / 2 ^ b) (by omega)
  generalize x / 2 ^ b = v at *
  generalize bitB x (b - 1) = B at *
  have hb0 : (b : Int) > 0 := by omega
  have e1 : ((v + 1 : Nat) : Int) = (v : Int) + 1 := by omega
  have hvz : 0 < v ∨ v = 0 := by omega
  cases B
  · rw [show (v + (false && (decide (1 < b) || decide (v % 2 = 1))).toNat) = v by simp]
    rcases hvz with hv0 | rfl
    · go_enter Tryz.func163, Tryz.ntmps163
      go_wp2_with (first | (go_at_call 180; (with_reducible refine H42.out.mono ?_); rintro r w1 ⟨a1, m1, k1, rfl, hh, g1⟩; obtain ⟨rfl, p, o, rfl, hc1, hc2, hcell⟩ : m1 = 1 ∧ ∃ p o, a1 = some ⟨p, o, none⟩ ∧ 1 ≤ k1 ∧ k1 ≤ 9223372036854775807 ∧ w1.cell? ⟨p, o, none⟩ = some (.int .u64 (v : Int)) := (by rcases hh with ⟨h, _⟩ | ⟨_, h⟩; omega; exact h); clear hh) | (go_at_call 181; (with_reducible refine (H69.out _ g1).mono ?_); rintro r w2 ⟨rfl, rfl⟩))
      go_ret
      exact ⟨rfl, g1⟩
    · go_enter Tryz.func163, Tryz.ntmps163
      go_wp2_with (first | (go_at_call 180; (with_reducible refine H42.out.mono ?_); rintro r w1 ⟨a1, m1, k1, rfl, hh, g1⟩; obtain rfl : m1 = 0 := (by rcases hh with ⟨_, h⟩ | ⟨h, _⟩; exact h; omega); clear hh) | (go_at_call 181; (with_reducible refine (H69.out _ g1).mono ?_); rintro r w2 ⟨rfl, rfl⟩))
      go_ret
      exact ⟨rfl, g1⟩
  · by_cases h1 : 1 < b
    · rw [show (v + (true && (decide (1 < b) || decide (v % 2 = 1))).toNat) = v + 1 by simp [h1]]
      have hb1 : (b : Int) > 1 := by omega
      rw [e1]
      rcases hvz with hv0 | rfl
      · go_enter Tryz.func163, Tryz.ntmps163
        go_wp2_with (first | (go_at_call 180; (with_reducible refine H42.out.mono ?_); rintro r w1 ⟨a1, m1, k1, rfl, hh, g1⟩; obtain ⟨rfl, p, o, rfl, hc1, hc2, hcell⟩ : m1 = 1 ∧ ∃ p o, a1 = some ⟨p, o, none⟩ ∧ 1 ≤ k1 ∧ k1 ≤ 9223372036854775807 ∧ w1.cell? ⟨p, o, none⟩ = some (.int .u64 (v : Int)) := (by rcases hh with ⟨h, _⟩ | ⟨_, h⟩; omega; exact h); clear hh) | (go_at_call 181; (with_reducible refine (H69.out _ g1).mono ?_); rintro r w2 ⟨rfl, rfl⟩))
        go_ret
        exact ⟨rfl, g1⟩
      · go_enter Tryz.func163, Tryz.ntmps163
        go_wp2_with (first | (go_at_call 180; (with_reducible refine H42.out.mono ?_); rintro r w1 ⟨a1, m1, k1, rfl, hh, g1⟩; obtain rfl : m1 = 0 := (by rcases hh with ⟨_, h⟩ | ⟨h, _⟩; exact h; omega); clear hh) | (go_at_call 181; (with_reducible refine (H69.out _ g1).mono ?_); rintro r w2 ⟨rfl, rfl⟩))
        go_ret
        exact ⟨rfl, g1⟩
    · have hb1 : ¬ (b : Int) > 1 := by omega
      by_cases hp : v % 2 = 1
      · rw [show (v + (true && (decide (1 < b) || decide (v % 2 = 1))).toNat) = v + 1 by simp [hp]]
        rw [decide_eq_true hp] at hpar
        rw [e1]
        have hv0 : 0 < v := by omega
        go_enter Tryz.func163, Tryz.ntmps163
        go_wp2_with (first | (go_at_call 180; (with_reducible refine H42.out.mono ?_); rintro r w1 ⟨a1, m1, k1, rfl, hh, g1⟩; obtain ⟨rfl, p, o, rfl, hc1, hc2, hcell⟩ : m1 = 1 ∧ ∃ p o, a1 = some ⟨p, o, none⟩ ∧ 1 ≤ k1 ∧ k1 ≤ 9223372036854775807 ∧ w1.cell? ⟨p, o, none⟩ = some (.int .u64 (v : Int)) := (by rcases hh with ⟨h, _⟩ | ⟨_, h⟩; omega; exact h); clear hh) | (go_at_call 181; (with_reducible refine (H69.out _ g1).mono ?_); rintro r w2 ⟨rfl, rfl⟩))
        go_ret
        exact ⟨rfl, g1⟩
      · rw [show (v + (true && (decide (1 < b) || decide (v % 2 = 1))).toNat) = v by simp [hp, h1]]
        rw [decide_eq_false hp] at hpar
        rcases hvz with hv0 | rfl
        · go_enter Tryz.func163, Tryz.ntmps163
          go_wp2_with (first | (go_at_call 180; (with_reducible refine H42.out.mono ?_); rintro r w1 ⟨a1, m1, k1, rfl, hh, g1⟩; obtain ⟨rfl, p, o, rfl, hc1, hc2, hcell⟩ : m1 = 1 ∧ ∃ p o, a1 = some ⟨p, o, none⟩ ∧ 1 ≤ k1 ∧ k1 ≤ 9223372036854775807 ∧ w1.cell? ⟨p, o, none⟩ = some (.int .u64 (v : Int)) := (by rcases hh with ⟨h, _⟩ | ⟨_, h⟩; omega; exact h); clear hh) | (go_at_call 181; (with_reducible refine (H69.out _ g1).mono ?_); rintro r w2 ⟨rfl, rfl⟩))
          go_ret
          exact ⟨rfl, g1⟩
        · have hz : (bits BinOp.and IntKind.u64 0 1 == 1) = false := by kernel_rfl
          go_enter Tryz.func163, Tryz.ntmps163
          go_wp2_with (first | (go_at_call 180; (with_reducible refine H42.out.mono ?_); rintro r w1 ⟨a1, m1, k1, rfl, hh, g1⟩; obtain rfl : m1 = 0 := (by rcases hh with ⟨_, h⟩ | ⟨h, _⟩; exact h; omega); clear hh) | (go_at_call 181; (with_reducible refine (H69.out _ g1).mono ?_); rintro r w2 ⟨rfl, rfl⟩))
          go_ret
          exact ⟨rfl, g1⟩
end Go.Proofs.YtlhpkflknfmjcaaGreatDoor
