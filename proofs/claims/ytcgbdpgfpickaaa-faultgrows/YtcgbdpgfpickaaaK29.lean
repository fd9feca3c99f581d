import Derived.Test.YtcgbdpgfpickaaaK28
import Derived.Test.YtcgbdpgfpickaaaK15
import Derived.Deep.RegionHeld3
namespace Go.Proofs.Ytcgbdpgfpickaaa
open Go.RowKit
set_option linter.unusedVariables false
set_option linter.unusedSimpArgs false

theorem keepY {W wo wn : World} {p : Nat} {a0 a1 a2 : Value} (g : Gr wo wn) (h : (wo.cell? ⟨p, 0, none⟩ = some a0 ∧ wo.cell? ⟨p, 1, none⟩ = some a1 ∧ wo.cell? ⟨p, 2, none⟩ = some a2) ∧ Gr W wo) : (wn.cell? ⟨p, 0, none⟩ = some a0 ∧ wn.cell? ⟨p, 1, none⟩ = some a1 ∧ wn.cell? ⟨p, 2, none⟩ = some a2) ∧ Gr W wn := ⟨⟨g.keep h.1.1, g.keep h.1.2.1, g.keep h.1.2.2⟩, h.2.trans g⟩
def RN9 (t0 t1 t2 t4 t5 t7 t8 t9 t10 t11 t12 t13 t14 t15 t16 t17 t18 t19 t20 t21 t22 t23 t24 t25 t26 t27 t28 t29 t30 t31 t32 t33 t34 t35 t36 t37 t38 t39 t40 t41 t42 t43 t44 t45 t46 t47 t48 t49 t50 t51 t52 t53 t54 t55 t56 t57 t58 t59 t60 t61 t62 t63 t64 t65 t66 t67 t68 : Value) (last v : Int) (bR : Nat) (wq : World) : Exit → Act → World → Prop
  | .normal, a, w => ∃ u41 u42 u43 u44 u45 u46, a = { tmps := #[t0, t1, t2, .int .i64 last, t4, t5, .pointer (some ⟨bR, 0, none⟩), .int .i64 v, t8, t9, t10, t11, t12, t13, t14, t15, t16, t17, t18, t19, t20, t21, t22, t23, t24, t25, t26, t27, t28, t29, t30, t31, t32, t33, t34, t35, t36, t37, t38, t39, t40, u41, u42, u43, u44, u45, u46, t47, t48, t49, t50, t51, t52, t53, t54, t55, t56, t57, t58, t59, t60, t61, t62, t63, t64, t65, t66, t67, t68], defers := [] } ∧ Gr wq w
  | _, _, _ => False
set_option maxRecDepth 100000 in
set_option maxHeartbeats 20000000 in
theorem regN9 (t0 t1 t2 t4 t5 t7 t8 t9 t10 t11 t12 t13 t14 t15 t16 t17 t18 t19 t20 t21 t22 t23 t24 t25 t26 t27 t28 t29 t30 t31 t32 t33 t34 t35 t36 t37 t38 t39 t40 t41 t42 t43 t44 t45 t46 t47 t48 t49 t50 t51 t52 t53 t54 t55 t56 t57 t58 t59 t60 t61 t62 t63 t64 t65 t66 t67 t68 : Value) (neg : Bool) (aR : Option Addr) (nR cR : Nat) (g last v : Int) (bR : Nat) (wq : World) (l1 : -4194304 ≤ last) (l2 : last ≤ 4194304)
    (r0 : wq.cell? ⟨bR, 0, none⟩ = some (.bool neg)) (r1 : wq.cell? ⟨bR, 1, none⟩ = some (.slice aR nR cR)) (r2 : wq.cell? ⟨bR, 2, none⟩ = some (.int .i64 g))
    (HO : Hid (∀ w1, Calls Try.prog 61 #[.int .u64 1] w1 fun e w' => ∃ ad n cap, e = .returned (.slice ad n cap) ∧ Hid (Lim w' ad n cap 18446744073709551616 1) ∧ Gr w1 w'))
    (HC : Hid (∀ a n c w1, Gr wq w1 → Lim w1 a n c 18446744073709551616 1 → Calls Try.prog 55 #[.agg #[.bool neg, .slice aR nR cR, .int .i64 g], .agg #[.bool false, .slice a n c, .int .i64 (IntKind.i64.wrap (last - 1))]] w1 fun r w' => r = .returned (.int .i64 v) ∧ Gr w1 w')) :
    Code.wp Try.prog (Code.region 9 #[{ dst := some 41, op := Op.load 54 (Operand.tmp 6), type := 54, pos := "num.go:200", after := #[], guard := none }, { dst := some 42, op := Op.call { callee := Callee.value (Operand.func 61), args := #[Operand.const (Value.int IntKind.u64 1)], argTypes := #[47] }, type := 52, pos := "num.go:200", after := #[], guard := none }, { dst := some 43, op := Op.move (Operand.tmp 3), type := 3, pos := "num.go:200", after := #[], guard := none }, { dst := some 44, op := Op.binOp BinOp.sub 3 (Operand.tmp 43) (Operand.const (Value.int IntKind.i64 1)) 3, type := 3, pos := "num.go:200", after := #[{ on := 2, ground := Ground.data }], guard := none }, { dst := some 45, op := Op.build 54 #[(1, Operand.tmp 42), (2, Operand.tmp 44)], type := 54, pos := "num.go:200", after := #[{ on := 1, ground := Ground.data }, { on := 3, ground := Ground.data }], guard := none }, { dst := some 46, op := Op.call { callee := Callee.value (Operand.func 55), args := #[Operand.tmp 41, Operand.tmp 45], argTypes := #[54, 54] }, type := 3, pos := "num.go:200", after := #[{ on := 0, ground := Ground.data }, { on := 4, ground := Ground.data }, { on := 1, ground := Ground.chain }], guard := none }, { dst := some 7, op := Op.assign (Operand.tmp 46), type := 3, pos := "num.go:200", after := #[{ on := 5, ground := Ground.data }, { on := 5, ground := Ground.chain }, { on := 0, ground := Ground.phase }, { on := 1, ground := Ground.phase }, { on := 2, ground := Ground.phase }, { on := 3, ground := Ground.phase }, { on := 4, ground := Ground.phase }, { on := 5, ground := Ground.phase }], guard := none }] true) (RN9 t0 t1 t2 t4 t5 t7 t8 t9 t10 t11 t12 t13 t14 t15 t16 t17 t18 t19 t20 t21 t22 t23 t24 t25 t26 t27 t28 t29 t30 t31 t32 t33 t34 t35 t36 t37 t38 t39 t40 t41 t42 t43 t44 t45 t46 t47 t48 t49 t50 t51 t52 t53 t54 t55 t56 t57 t58 t59 t60 t61 t62 t63 t64 t65 t66 t67 t68 last v bR wq) { tmps := #[t0, t1, t2, .int .i64 last, t4, t5, .pointer (some ⟨bR, 0, none⟩), t7, t8, t9, t10, t11, t12, t13, t14, t15, t16, t17, t18, t19, t20, t21, t22, t23, t24, t25, t26, t27, t28, t29, t30, t31, t32, t33, t34, t35, t36, t37, t38, t39, t40, t41, t42, t43, t44, t45, t46, t47, t48, t49, t50, t51, t52, t53, t54, t55, t56, t57, t58, t59, t60, t61, t62, t63, t64, t65, t66, t67, t68], defers := [] } wq := by
  have hS0 : (wq.drew.cell? ⟨bR, 0, none⟩ = some (.bool neg) ∧ wq.drew.cell? ⟨bR, 1, none⟩ = some (.slice aR nR cR) ∧ wq.drew.cell? ⟨bR, 2, none⟩ = some (.int .i64 g)) ∧ Gr wq wq.drew := ⟨⟨r0, r1, r2⟩, (Gr.refl wq).drew⟩
  clear r0 r1 r2
  refine wp_region_held_drew (S := fun w' => (w'.cell? ⟨bR, 0, none⟩ = some (.bool neg) ∧ w'.cell? ⟨bR, 1, none⟩ = some (.slice aR nR cR) ∧ w'.cell? ⟨bR, 2, none⟩ = some (.int .i64 g)) ∧ Gr wq w') (by kernel_rfl) hS0 (fun hHeld => ?_)
  refine wpAnyH_take (i := 0) (oi := ({ dst := some 41, op := Op.load 54 (Operand.tmp 6), type := 54, pos := "num.go:200", after := #[], guard := none } : Oper)) (v := ?_) rfl (by kernel_rfl) (by kernel_rfl) (by kernel_rfl) (fun _ _ _ h => h) (Or.inl ⟨by rfl, ?_⟩) (by with_reducible assumption) ?_
  rotate_left
  · intro w hSw
    (try dsimp only at hSw)
    first | (go_simp; done) | (go_simp; with_reducible rfl)
  (try simp only [Act.put, List.setIfInBounds_toArray, List.set_cons_zero, List.set_cons_succ])
  refine wpAnyH_take (i := 2) (oi := ({ dst := some 43, op := Op.move (Operand.tmp 3), type := 3, pos := "num.go:200", after := #[], guard := none } : Oper)) (v := ?_) rfl (by kernel_rfl) (by kernel_rfl) (by kernel_rfl) (fun _ _ _ h => h) (Or.inl ⟨by rfl, ?_⟩) (by with_reducible assumption) ?_
  rotate_left
  · intro w hSw
    (try dsimp only at hSw)
    first | (go_simp; done) | (go_simp; with_reducible rfl)
  (try simp only [Act.put, List.setIfInBounds_toArray, List.set_cons_zero, List.set_cons_succ])
  refine wpAnyH_take (i := 3) (oi := ({ dst := some 44, op := Op.binOp BinOp.sub 3 (Operand.tmp 43) (Operand.const (Value.int IntKind.i64 1)) 3, type := 3, pos := "num.go:200", after := #[{ on := 2, ground := Ground.data }], guard := none } : Oper)) (v := ?_) rfl (by kernel_rfl) (by kernel_rfl) (by kernel_rfl) (fun _ _ _ h => h) (Or.inl ⟨by rfl, ?_⟩) (by with_reducible assumption) ?_
  rotate_left
  · intro w hSw
    (try dsimp only at hSw)
    first | (go_simp; done) | (go_simp; with_reducible rfl)
  (try simp only [Act.put, List.setIfInBounds_toArray, List.set_cons_zero, List.set_cons_succ])
  refine wpAnyH_ready (rs := [1]) (by kernel_rfl) (by simp) ?_
  refine AllReadyH.cons (o := ({ dst := some 42, op := Op.call { callee := Callee.value (Operand.func 61), args := #[Operand.const (Value.int IntKind.u64 1)], argTypes := #[47] }, type := 52, pos := "num.go:200", after := #[], guard := none } : Oper)) rfl (fun K hK => ?_) AllReadyH.nil
  go_simp
  with_reducible refine (HO.out _).mono ?_
  rintro r w4 ⟨a4, n4, c4, rfl, hl4, g4⟩
  refine hK.out _ _ (keepY g4 hHeld) (fun hH4 => ?_)
  clear hK K
  (try simp only [Act.put, List.setIfInBounds_toArray, List.set_cons_zero, List.set_cons_succ])
  refine wpAnyH_take (i := 4) (oi := ({ dst := some 45, op := Op.build 54 #[(1, Operand.tmp 42), (2, Operand.tmp 44)], type := 54, pos := "num.go:200", after := #[{ on := 1, ground := Ground.data }, { on := 3, ground := Ground.data }], guard := none } : Oper)) (v := ?_) rfl (by kernel_rfl) (by kernel_rfl) (by kernel_rfl) (fun _ _ _ h => h) (Or.inl ⟨by rfl, ?_⟩) (by with_reducible assumption) ?_
  rotate_left
  · intro w hSw
    (try dsimp only at hSw)
    first | (go_simp; done) | (go_simp; with_reducible rfl)
  (try simp only [Act.put, List.setIfInBounds_toArray, List.set_cons_zero, List.set_cons_succ])
  refine wpAnyH_ready (rs := [5]) (by kernel_rfl) (by simp) ?_
  refine AllReadyH.cons (o := ({ dst := some 46, op := Op.call { callee := Callee.value (Operand.func 55), args := #[Operand.tmp 41, Operand.tmp 45], argTypes := #[54, 54] }, type := 3, pos := "num.go:200", after := #[{ on := 0, ground := Ground.data }, { on := 4, ground := Ground.data }, { on := 1, ground := Ground.chain }], guard := none } : Oper)) rfl (fun K hK => ?_) AllReadyH.nil
  go_simp
  with_reducible refine (HC.out _ _ _ _ hH4.2 hl4.out).mono ?_
  rintro r w6 ⟨rfl, g6⟩
  refine hK.out _ _ (keepY g6 hH4) (fun hH6 => ?_)
  clear hK K
  (try simp only [Act.put, List.setIfInBounds_toArray, List.set_cons_zero, List.set_cons_succ])
  refine wpAnyH_take (i := 6) (oi := ({ dst := some 7, op := Op.assign (Operand.tmp 46), type := 3, pos := "num.go:200", after := #[{ on := 5, ground := Ground.data }, { on := 5, ground := Ground.chain }, { on := 0, ground := Ground.phase }, { on := 1, ground := Ground.phase }, { on := 2, ground := Ground.phase }, { on := 3, ground := Ground.phase }, { on := 4, ground := Ground.phase }, { on := 5, ground := Ground.phase }], guard := none } : Oper)) (v := ?_) rfl (by kernel_rfl) (by kernel_rfl) (by kernel_rfl) (fun _ _ _ h => h) (Or.inl ⟨by rfl, ?_⟩) (by with_reducible assumption) ?_
  rotate_left
  · intro w hSw
    (try dsimp only at hSw)
    first | (go_simp; done) | (go_simp; with_reducible rfl)
  (try simp only [Act.put, List.setIfInBounds_toArray, List.set_cons_zero, List.set_cons_succ])
  refine wpAnyH_done (by kernel_rfl) ?_ _
  exact ⟨_, _, _, _, _, _, rfl, hH6.2⟩
end Go.Proofs.Ytcgbdpgfpickaaa
namespace Go.Proofs.Ytcgbdpgfpickaaa
open Go.RowKit
set_option linter.unusedVariables false

end Go.Proofs.Ytcgbdpgfpickaaa
namespace Go.Proofs.Ytcgbdpgfpickaaa.Fl
open Go.RowKit
open Ieee
set_option linter.unusedVariables false

/-- what was rounded: N gaps, half a gap off at most, even where it is half a gap -/
structure Rnd (A G N : Nat) : Prop where
  lo : 2 * (N * G) ≤ 2 * A + G
  hi : 2 * A ≤ 2 * (N * G) + G
  tlo : 2 * (N * G) = 2 * A + G → N % 2 = 0
  thi : 2 * A = 2 * (N * G) + G → N % 2 = 0
theorem Rnd.of {A G N K : Nat} (h : N * G = K) (lo : 2 * K ≤ 2 * A + G) (hi : 2 * A ≤ 2 * K + G) (tlo : 2 * K = 2 * A + G → N % 2 = 0) (thi : 2 * A = 2 * K + G → N % 2 = 0) : Rnd A G N := by
  subst h; exact ⟨lo, hi, tlo, thi⟩
theorem rnd_exact (A G N : Nat) (hG : 0 < G) (h : A = N * G) : Rnd A G N := by
  subst h
  exact ⟨by omega, by omega, fun h => by omega, fun h => by omega⟩
/-- an odd number, rounded by the program's rule -/
theorem rnd_up (q b F : Nat) (hF : 0 < F) (b0 : 0 < b) : Rnd ((2 * q + 1) * F) (2 ^ b * F) ((2 * q + 1) / 2 ^ b + (upB (2 * q + 1) b).toNat) := by
  obtain ⟨c, rfl⟩ : ∃ c, b = c + 1 := ⟨b - 1, by omega⟩
  have hP : 0 < 2 ^ c := Nat.two_pow_pos c
  have e1 : 2 ^ (c + 1) = 2 * 2 ^ c := by rw [Nat.pow_succ]; omega
  have hbit : bitB (2 * q + 1) c = decide ((2 * q + 1) / 2 ^ c % 2 = 1) := rfl
  have hd : (2 * q + 1) / 2 ^ (c + 1) = (2 * q + 1) / 2 ^ c / 2 := by rw [Nat.pow_succ, Nat.div_div_eq_div_mul]
  have hx := Nat.div_add_mod (2 * q + 1) (2 ^ c)
  have hm := Nat.mod_lt (2 * q + 1) hP
  have hup : upB (2 * q + 1) (c + 1) = (decide ((2 * q + 1) / 2 ^ c % 2 = 1) && (decide (1 < c + 1) || decide ((2 * q + 1) / 2 ^ c / 2 % 2 = 1))) := by
    unfold upB
    rw [hd]
    rfl
  rw [hup, hd, e1]
  -- c = 0: nothing below the bit; c > 0: the lowest bit is below it
  have hlow : (c = 0 ∧ (2 * q + 1) % 2 ^ c = 0) ∨ (0 < c ∧ 0 < (2 * q + 1) % 2 ^ c) := by
    by_cases h : c = 0
    · subst h; exact Or.inl ⟨rfl, Nat.mod_one _⟩
    · refine Or.inr ⟨by omega, Nat.pos_of_ne_zero fun h0 => ?_⟩
      obtain ⟨d, rfl⟩ : ∃ d, c = d + 1 := ⟨c - 1, by omega⟩
      have : 2 ∣ 2 * q + 1 := Nat.dvd_trans ⟨2 ^ d, by rw [Nat.pow_succ]; omega⟩ (Nat.dvd_of_mod_eq_zero h0)
      omega
  generalize (2 * q + 1) / 2 ^ c = y at *
  generalize (2 * q + 1) % 2 ^ c = z at *
  generalize 2 ^ c = P at *
  generalize 2 * q + 1 = x at *
  have hxF : x * F = y * (P * F) + z * F := by rw [← hx, Nat.add_mul, Nat.mul_assoc, Nat.mul_left_comm]
  have hzF : z * F < P * F := Nat.mul_lt_mul_of_pos_right hm hF
  have hz0 : 0 < c → 0 < z * F := fun h => Nat.mul_pos (by omega) hF
  have hzc : c = 0 → z * F = 0 := fun h => by rw [show z = 0 by omega, Nat.zero_mul]
  have ePF : 2 * P * F = 2 * (P * F) := Nat.mul_assoc _ _ _
  rw [hxF, ePF]
  generalize P * F = H at *
  generalize z * F = zf at *
  have hy := Nat.div_add_mod y 2
  by_cases hb : y % 2 = 1
  · have ey : y = 2 * (y / 2) + 1 := by omega
    by_cases hc : c = 0
    · have hz := hzc hc
      subst hz
      by_cases hp : y / 2 % 2 = 1
      · have hN : y / 2 + (decide (y % 2 = 1) && (decide (1 < c + 1) || decide (y / 2 % 2 = 1))).toNat = y / 2 + 1 := by simp [hb, hp]
        rw [hN]
        have e2 : (y / 2 + 1) * (2 * H) = y * H + H := by
          conv => rhs; rw [ey]
          rw [Nat.add_mul, Nat.add_mul, Nat.mul_comm 2 (y / 2), Nat.mul_assoc]; omega
        exact Rnd.of e2 (by omega) (by omega) (fun _ => by omega) (fun h => by omega)
      · have hN : y / 2 + (decide (y % 2 = 1) && (decide (1 < c + 1) || decide (y / 2 % 2 = 1))).toNat = y / 2 := by simp [hb, hp, hc]
        rw [hN]
        have e2 : y / 2 * (2 * H) + H = y * H := by
          conv => rhs; rw [ey]
          rw [Nat.add_mul, Nat.mul_comm 2 (y / 2), Nat.mul_assoc]; omega
        rw [← e2]
        exact ⟨by omega, by omega, fun h => by omega, fun _ => by omega⟩
    · have hz := hz0 (by omega)
      have hN : y / 2 + (decide (y % 2 = 1) && (decide (1 < c + 1) || decide (y / 2 % 2 = 1))).toNat = y / 2 + 1 := by simp [hb, show 1 < c + 1 by omega]
      rw [hN]
      have e2 : (y / 2 + 1) * (2 * H) = y * H + H := by
        conv => rhs; rw [ey]
        rw [Nat.add_mul, Nat.add_mul, Nat.mul_comm 2 (y / 2), Nat.mul_assoc]; omega
      exact Rnd.of e2 (by omega) (by omega) (fun h => by omega) (fun h => by omega)
  · have ey : y = 2 * (y / 2) := by omega
    have hN : y / 2 + (decide (y % 2 = 1) && (decide (1 < c + 1) || decide (y / 2 % 2 = 1))).toNat = y / 2 := by simp [hb]
    rw [hN]
    have e2 : y / 2 * (2 * H) = y * H := by
      conv => rhs; rw [ey]
      rw [Nat.mul_comm 2 (y / 2), Nat.mul_assoc]
    exact Rnd.of e2 (by omega) (by omega) (fun h => by omega) (fun h => by omega)
/-- the rung of N gaps, and its neighbours -/
theorem rung_near (t N : Nat) (hN : N ≤ 9007199254740992) (h : t = 0 ∨ 4503599627370496 ≤ N) :
    M (t * 4503599627370496 + N) = N * 2 ^ t ∧ N * 2 ^ t + 2 ^ t ≤ M (t * 4503599627370496 + N + 1) ∧
      (0 < t * 4503599627370496 + N → (M (t * 4503599627370496 + N - 1) + 2 ^ t = N * 2 ^ t ∨ (0 < t ∧ N = 4503599627370496 ∧ 2 * M (t * 4503599627370496 + N - 1) + 2 ^ t = 2 * (N * 2 ^ t)))) := by
  have hM := M_at t N (by rcases h with h | h; exact Or.inr ⟨h, hN⟩; exact Or.inl ⟨h, hN⟩)
  refine ⟨hM, ?_, fun h0 => ?_⟩
  · have hs := M_succ (t * 4503599627370496 + N)
    have he : t ≤ ex (t * 4503599627370496 + N) := by unfold ex; omega
    have := Nat.pow_le_pow_right (n := 2) (by omega) he
    rw [hs, hM]
    omega
  · have hs := M_succ (t * 4503599627370496 + N - 1)
    rw [show t * 4503599627370496 + N - 1 + 1 = t * 4503599627370496 + N by omega, hM] at hs
    by_cases hc : t = 0 ∨ 4503599627370496 < N
    · left
      have he : ex (t * 4503599627370496 + N - 1) = t := by unfold ex; omega
      rw [he] at hs
      omega
    · right
      have he : ex (t * 4503599627370496 + N - 1) = t - 1 := by unfold ex; omega
      rw [he] at hs
      refine ⟨by omega, by omega, ?_⟩
      have e2 : 2 ^ t = 2 * 2 ^ (t - 1) := by
        obtain ⟨u, rfl⟩ : ∃ u, t = u + 1 := ⟨t - 1, by omega⟩
        rw [Nat.add_sub_cancel, Nat.pow_succ, Nat.mul_comm]
      omega
end Go.Proofs.Ytcgbdpgfpickaaa.Fl
namespace Go.Proofs.Ytcgbdpgfpickaaa.Fl
open Go.RowKit
open Ieee
set_option linter.unusedVariables false

theorem copyN_t (r : Nat) (h : r < 9223372036854775808) : copyN r 13830554455654793216 = W true r := by
  have h1 : bits BinOp.andNot IntKind.u64 (r : Int) 9223372036854775808 = (r : Int) := by
    have := abs_W false r h
    rw [show W false r = r from rfl] at this
    unfold absN at this
    have h2 : 0 ≤ bits BinOp.andNot IntKind.u64 (r : Int) 9223372036854775808 := by
      show 0 ≤ IntKind.u64.wrap _
      rw [IntKind.wrap_u64]; omega
    omega
  have h3 : bits BinOp.and IntKind.u64 13830554455654793216 9223372036854775808 = ((9223372036854775808 : Nat) : Int) := by kernel_rfl
  unfold copyN
  rw [h1, show ((13830554455654793216 : Nat) : Int) = 13830554455654793216 from rfl, h3, bits_or_u64_nat r 9223372036854775808 (by omega) (by omega)]
  have : r ||| 9223372036854775808 = 9223372036854775808 + r := by
    have := Nat.two_pow_add_eq_or_of_lt (i := 63) (b := r) (by simpa using h) 1
    rw [Nat.or_comm]
    simpa using this.symm
  rw [this]
  show _ = 9223372036854775808 + r
  simp
  omega
@[irreducible] def DD : Nat := 2 ^ (KK - 1074).toNat
theorem DD_eq : DD = 2 ^ (KK - 1074).toNat := by unfold DD; rfl
theorem DD_pos : 0 < DD := by rw [DD_eq]; exact Nat.two_pow_pos _
end Go.Proofs.Ytcgbdpgfpickaaa.Fl
