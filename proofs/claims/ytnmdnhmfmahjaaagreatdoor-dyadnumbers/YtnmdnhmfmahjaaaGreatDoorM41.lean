import Derived.Test.YtnmdnhmfmahjaaaGreatDoorM38
namespace Go.Proofs.YtnmdnhmfmahjaaaGreatDoor
open Go.RowKit
set_option linter.unusedVariables false

/-- what settle tells of an odd number that fits -/
theorem settled_odd {w : World} {r : Ending} {s : Bool} {q : Nat} {E : Int} (h : Settled w r s (2 * q + 1) E) (hF : Fits (2 * q + 1) E) : ∃ ad n cap, r = .returned (.tuple #[.agg #[.bool s, .slice ad n cap, .int .i64 E], .int .i64 0]) ∧ Lim w ad n cap 18446744073709551616 (2 * q + 1) := by
  unfold Settled at h
  rcases h with ⟨h, _⟩ | ⟨t, q', ad, n, cap, hx, hF', rfl, hl, _⟩ | ⟨t, q', hx, hF', _⟩
  · omega
  · obtain ⟨h1, h2⟩ := odd_unique (t := 0) (q := q) (t' := t) (q' := q') (by rw [Nat.pow_zero, Nat.one_mul]; exact hx)
    subst h1 h2
    exact ⟨ad, n, cap, by simp, hl⟩
  · obtain ⟨h1, h2⟩ := odd_unique (t := 0) (q := q) (t' := t) (q' := q') (by rw [Nat.pow_zero, Nat.one_mul]; exact hx)
    subst h1 h2
    exact absurd hF (by simpa using hF')
/-- and of one that does not -/
theorem settled_no {w : World} {r : Ending} {s : Bool} {k q : Nat} {E : Int} (h : Settled w r s (2 ^ k * (2 * q + 1)) E) (hF : ¬ Fits (2 * q + 1) (E + (k : Int))) : r = .returned (.tuple #[zeroD, .int .i64 3]) := by
  unfold Settled at h
  rcases h with ⟨h, _⟩ | ⟨t, q', ad, n, cap, hx, hF', rfl, hl, _⟩ | ⟨t, q', hx, hF', h⟩
  · exact absurd h (Nat.ne_of_gt (Nat.mul_pos (Nat.two_pow_pos k) (by omega)))
  · obtain ⟨h1, h2⟩ := odd_unique hx
    subst h1 h2
    exact absurd hF' hF
  · exact h
/-- what settle tells of a power of two that fits -/
theorem settled_pow {w : World} {r : Ending} {s : Bool} {k q : Nat} {E : Int} (h : Settled w r s (2 ^ k * (2 * q + 1)) E) (hF : Fits (2 * q + 1) (E + (k : Int))) : ∃ ad n cap, r = .returned (.tuple #[.agg #[.bool s, .slice ad n cap, .int .i64 (E + (k : Int))], .int .i64 0]) ∧ Lim w ad n cap 18446744073709551616 (2 * q + 1) := by
  unfold Settled at h
  rcases h with ⟨h, _⟩ | ⟨t, q', ad, n, cap, hx, hF', rfl, hl, _⟩ | ⟨t, q', hx, hF', h⟩
  · exact absurd h (Nat.ne_of_gt (Nat.mul_pos (Nat.two_pow_pos k) (by omega)))
  · obtain ⟨h1, h2⟩ := odd_unique hx
    subst h1 h2
    exact ⟨ad, n, cap, rfl, hl⟩
  · obtain ⟨h1, h2⟩ := odd_unique hx
    subst h1 h2
    exact absurd hF hF'
/-- an answer of that worth is settle's of the odd number -/
theorem setv_odd {w : World} {r : Ending} {V : Int} {s : Bool} {q : Nat} {e : Int} (h : SetV w r V) (hV : V = sv KK s (2 * q + 1) e) (he : 0 ≤ e + KK) : Settled w r s (2 * q + 1) e := by
  obtain ⟨s', x, e', he', hw, hS⟩ := h
  have can : ∀ (t q' : Nat), x = 2 ^ t * (2 * q' + 1) → s' = s ∧ q' = q ∧ e' + (t : Int) = e := by
    intro t q' hx
    subst hx
    have d1 := sv_down KK s' (2 * q' + 1) (e' + t) e' (by omega) he'
    rw [show (e' + (t : Int) - e').toNat = t by omega, Nat.mul_comm] at d1
    have := sv_odd_one (e := e' + t) (f := e) (by omega) he (d1.symm.trans (hw.trans hV))
    exact ⟨this.1, this.2.1, this.2.2⟩
  unfold Settled at hS ⊢
  rcases hS with ⟨rfl, _⟩ | ⟨t, q', ad, n, cap, hx, hF, rfl, hl, hn⟩ | ⟨t, q', hx, hF, rfl⟩
  · rw [sv_zero] at hw
    have := sv_eq_zero.1 (hV.symm.trans hw.symm)
    omega
  · obtain ⟨rfl, rfl, h3⟩ := can t q' hx
    rw [h3] at hF ⊢
    exact Or.inr (Or.inl ⟨0, q', ad, n, cap, by rw [Nat.pow_zero, Nat.one_mul], by simpa using hF, by simp, hl, hn⟩)
  · obtain ⟨rfl, rfl, h3⟩ := can t q' hx
    rw [h3] at hF
    exact Or.inr (Or.inr ⟨0, q', by rw [Nat.pow_zero, Nat.one_mul], by simpa using hF, rfl⟩)

/-- a full row of limbs -/
theorem nv_full (B n : Nat) (hB : 0 < B) : nv B (List.replicate n (B - 1)) + 1 = B ^ n := by
  induction n with
  | zero => rfl
  | succ n ih =>
    rw [List.replicate_succ, show nv B ((B - 1) :: List.replicate n (B - 1)) = (B - 1) + B * nv B (List.replicate n (B - 1)) from rfl, Nat.pow_succ, ← ih]
    rw [Nat.add_mul, Nat.mul_comm (nv B _) B]
    omega
/-- the full row's number F = 2 Q + 1, of M bits -/
structure Full (F Q M : Nat) : Prop where
  hM : M = 262144
  hL : 64 * L4096 = M
  hF : F + 1 = 2 ^ M
  hQ : Q + 1 = 2 ^ (M - 1)
  odd : F = 2 * Q + 1
theorem full_ex : ∃ F Q M, Full F Q M := by
  obtain ⟨M, hL⟩ : ∃ M, 64 * L4096 = M := ⟨_, rfl⟩
  have hM : M = 262144 := by rw [← hL, L4096_eq]
  have p1 := Nat.two_pow_pos M
  have p2 := Nat.two_pow_pos (M - 1)
  have h3 : 2 ^ M = 2 * 2 ^ (M - 1) := by
    obtain ⟨k, hk⟩ : ∃ k, M = k + 1 := ⟨M - 1, by omega⟩
    rw [hk, Nat.add_sub_cancel, Nat.pow_succ, Nat.mul_comm]
  exact ⟨2 ^ M - 1, 2 ^ (M - 1) - 1, M, hM, hL, by omega, by omega, by omega⟩
theorem Full.pow {F Q M : Nat} (h : Full F Q M) : 18446744073709551616 ^ L4096 = 2 ^ M := by rw [pow64, h.hL]
theorem Full.nv {F Q M : Nat} (h : Full F Q M) {n : Nat} (hn : n = 4096) : nv 18446744073709551616 (List.replicate n 18446744073709551615) = F := by
  have h1 := nv_full 18446744073709551616 n (by omega)
  have h2 := h.hM
  rw [pow64, show 64 * n = M by omega, ← h.hF] at h1
  exact Nat.add_right_cancel h1
theorem Full.a {F Q M : Nat} (h : Full F Q M) : sv KK false F 0 + sv KK false 1 0 = sv KK false (2 * 0 + 1) 262144 := by
  have hk := KK_eq
  have hM := h.hM
  have h1 := plus_same (K := KK) (s := false) (m := F) (n := 1) (e := 0) (f := 0) (by omega) (by omega)
  rw [← h1, show ((0 : Int) - 0).toNat = 0 from rfl, Nat.pow_zero, Nat.mul_one, h.hF]
  have h2 := sv_down KK false 1 262144 0 (by omega) (by omega)
  rw [show ((262144 : Int) - 0).toNat = M by omega, Nat.one_mul] at h2
  exact h2
theorem Full.b {F Q M : Nat} (h : Full F Q M) : sv KK false F 0 + sv KK false 1 262144 = sv KK false (2 * F + 1) 0 := by
  have hk := KK_eq
  have hM := h.hM
  have h1 := plus_same (K := KK) (s := false) (m := F) (n := 1) (e := 0) (f := 262144) (by omega) (by omega)
  rw [← h1, show ((262144 : Int) - 0).toNat = M by omega, Nat.one_mul, ← h.hF, show F + (F + 1) = 2 * F + 1 by omega]
theorem Full.c {F Q M : Nat} (h : Full F Q M) : sv KK false F 0 + sv KK false 1 (-1) = sv KK false (2 * F + 1) (-1) := by
  have hk := KK_eq
  have h1 := plus_same (K := KK) (s := false) (m := 1) (n := F) (e := -1) (f := 0) (by omega) (by omega)
  rw [Int.add_comm, ← h1, show ((0 : Int) - (-1)).toNat = 1 from rfl, Nat.pow_one, show 1 + F * 2 = 2 * F + 1 by omega]
theorem Full.no {F Q M : Nat} (h : Full F Q M) (E : Int) : ¬ Fits (2 * F + 1) E := by
  rintro ⟨h1, _⟩
  rw [h.pow, ← h.hF] at h1
  omega
theorem one_fits {E : Int} (h1 : -1048576 ≤ E) (h2 : E ≤ 1048576) : Fits (2 * 0 + 1) E := by
  obtain ⟨F, Q, M, h⟩ := full_ex
  refine ⟨?_, h1, h2⟩
  rw [h.pow, ← h.hF, h.odd]
  omega
end Go.Proofs.YtnmdnhmfmahjaaaGreatDoor
namespace Go.Proofs.YtnmdnhmfmahjaaaGreatDoor.Fl
open Go.RowKit
open Ieee
set_option linter.unusedVariables false

/-- Float, where the whole number that is rounded to is known -/
theorem float_num (s : Bool) (ad : Option Addr) (n cap x N t : Nat) (e last : Int) (w : World) (dx : DyAt w s ad (n + 1) cap e x) (x0 : 0 < x) (hlast : max ((bl x : Int) + e - 53) (-1074) = last) (ht : (t : Int) = last + 1074) (hN : N ≤ 9007199254740992) (hN2 : t = 0 ∨ 4503599627370496 ≤ N) (hl : last ≤ 4000000)
    (H48 : Hid (∀ w1, Gr w w1 → Calls Tryz.prog 30 #[.slice ad (n + 1) cap, .int .i64 (last - e)] w1 fun r w' => r = .returned (.int .u64 (N : Int)) ∧ Gr w1 w')) :
    (t * 4503599627370496 + N < 9218868437227405312 → Calls Tryz.prog 7 #[.agg #[.bool s, .slice ad (n + 1) cap, .int .i64 e]] w fun r w' => r = .returned (.tuple #[.float .f64 (W s (t * 4503599627370496 + N)), .int .i64 0]) ∧ Gr w w') ∧
    (9218868437227405312 ≤ t * 4503599627370496 + N → Calls Tryz.prog 7 #[.agg #[.bool s, .slice ad (n + 1) cap, .int .i64 e]] w fun r w' => r = .returned (.tuple #[.float .f64 0, .int .i64 6]) ∧ Gr w w') := by
  have A46 : Hid (∀ w, Calls Tryz.prog 29 #[.float .f64 (floatOfInt FloatKind.f64 (N : Int)), .int .i64 last] w fun e w' => e = .returned (.float .f64 (min (t * 4503599627370496 + N) 9218868437227405312)) ∧ w' = w) := by
    obtain ⟨hMM, _, _⟩ := rung_near t N hN hN2
    intro w
    clear H48 dx hlast
    rw [floatOfInt_W (N : Int) (by omega), show decide ((N : Int) < 0) = false from decide_eq_false (by omega), show ((N : Int)).natAbs = N by omega]
    by_cases h0 : N = 0
    · subst h0
      obtain rfl : t = 0 := by rcases hN2 with h | h; exact h; exact absurd h (by decide)
      have hz : ofN 0 = 0 := M_inj ((ofN_spec 0 (by omega)).1.trans (by rw [Nat.zero_mul, M_zero]))
      rw [hz]
      have := ldexp_same (W false 0) last w (by rw [zeroB_W false 0 (by omega)]; rfl)
      exact this
    · exact ldexpN (ofN N) N (t * 4503599627370496 + N) t last (by omega) (ofN_spec N (by omega)).2.1 (ofN_spec N (by omega)).1 ht (by omega) hMM w
  have hI9 : pinfB (absN 9218868437227405312) = true := by
    have h1 := abs_W false 9218868437227405312 (by omega)
    rw [show W false 9218868437227405312 = 9218868437227405312 from rfl] at h1
    have h2 := pinfB_W false 9218868437227405312 (by omega)
    rw [show W false 9218868437227405312 = 9218868437227405312 from rfl] at h2
    exact (congrArg pinfB h1).trans h2
  constructor
  · intro hf
    rw [Nat.min_eq_left (by omega)] at A46
    obtain ⟨y, hy⟩ : ∃ y, y = t * 4503599627370496 + N := ⟨_, rfl⟩
    rw [← hy] at A46 hf ⊢
    have hI : pinfB (absN y) = false := by
      have h1 := abs_W false y (by omega)
      rw [show W false y = y from rfl] at h1
      rw [h1]
      have h2 := pinfB_W false y (by omega)
      rw [show W false y = y from rfl] at h2
      rw [h2, decide_eq_false (by omega)]; rfl
    cases s
    · exact float22p ad n cap x N y e last w dx x0 hlast H48 A46 hI
    · have := float22n ad n cap x N y e last w dx x0 hlast H48 A46 hI
      rw [copyN_t _ (by omega)] at this
      exact this
  · intro hf
    rw [Nat.min_eq_right (by omega)] at A46
    exact float22o s ad n cap x N 9218868437227405312 e last w dx x0 hlast H48 A46 hI9
theorem bl1 : bl 1 = 1 := by rw [bl_pos (by omega), show 1 / 2 = 0 from rfl, bl_zero]
theorem bl3 : bl 3 = 2 := by rw [bl_pos (by omega), show 3 / 2 = 1 from rfl, bl1]
theorem fl_g (a : Option Addr) (c : Nat) (w : World) (h : Lim w a 1 c 18446744073709551616 1) :
    Calls Tryz.prog 7 #[.agg #[.bool false, .slice a 1 c, .int .i64 1024]] w fun r w' => r = .returned (.tuple #[.float .f64 0, .int .i64 6]) ∧ Gr w w' := by
  have dx : DyAt w false a (0 + 1) c 1024 1 := ⟨h, by omega, Or.inr ⟨0, rfl, by omega, by omega⟩⟩
  refine (float_num false a 0 c 1 4503599627370496 2046 1024 972 w dx (by omega) (by rw [bl1]; rfl) (by omega) (by omega) (Or.inr (by omega)) (by omega) (fun w1 g => ?_)).2 (by omega)
  have := nearest48z a (0 + 1) c 1 52 (972 - 1024) w1 (h.gr g) (by omega) (by omega) (by omega) (by decide) (by omega)
  exact this
theorem fl_h (a : Option Addr) (c : Nat) (w : World) (h : Lim w a 1 c 18446744073709551616 1) :
    Calls Tryz.prog 7 #[.agg #[.bool true, .slice a 1 c, .int .i64 (-1075)]] w fun r w' => r = .returned (.tuple #[.float .f64 9223372036854775808, .int .i64 0]) ∧ Gr w w' := by
  have dx : DyAt w true a (0 + 1) c (-1075) 1 := ⟨h, by omega, Or.inr ⟨0, rfl, by omega, by omega⟩⟩
  refine (float_num true a 0 c 1 0 0 (-1075) (-1074) w dx (by omega) (by rw [bl1]; rfl) (by omega) (by omega) (Or.inl rfl) (by omega) (fun w1 g => ?_)).1 (by omega)
  have := nearest48p a (0 + 1) c 1 1 w1 (h.gr g) (by omega) (by omega) (by omega) (by decide)
  exact this
theorem fl_j (a : Option Addr) (c : Nat) (w : World) (h : Lim w a 1 c 18446744073709551616 3) :
    Calls Tryz.prog 7 #[.agg #[.bool false, .slice a 1 c, .int .i64 (-1075)]] w fun r w' => r = .returned (.tuple #[.float .f64 2, .int .i64 0]) ∧ Gr w w' := by
  have dx : DyAt w false a (0 + 1) c (-1075) 3 := ⟨h, by omega, Or.inr ⟨1, rfl, by omega, by omega⟩⟩
  refine (float_num false a 0 c 3 2 0 (-1075) (-1074) w dx (by omega) (by rw [bl3]; rfl) (by omega) (by omega) (Or.inl rfl) (by omega) (fun w1 g => ?_)).1 (by omega)
  have := nearest48p a (0 + 1) c 3 1 w1 (h.gr g) (by omega) (by omega) (by omega) (by decide)
  exact this
/-- NaN and the infinity below -/
theorem nan17 (w : World) : Calls Tryz.prog 17 #[] w fun r w' => r = .returned (.float .f64 9221120237041090561) ∧ w' = w := by
  have h1 := from68
  go_enter Tryz.func17, Tryz.ntmps17
  go_wp2
  go_ret
  exact ⟨rfl, rfl⟩
theorem inf18 (w : World) : Calls Tryz.prog 18 #[.int .i64 (-1)] w fun r w' => r = .returned (.float .f64 18442240474082181120) ∧ w' = w := by
  have h1 := from68
  go_enter Tryz.func18, Tryz.ntmps18
  go_wp2
  go_ret
  exact ⟨rfl, rfl⟩
theorem of_a (w : World) : Calls Tryz.prog 16 #[.float .f64 9221120237041090561] w fun r w' => r = .returned (.tuple #[zeroD, .int .i64 5]) ∧ Gr w w' :=
  of4n _ w (by decide +kernel)
theorem of_b (w : World) : Calls Tryz.prog 16 #[.float .f64 18442240474082181120] w fun r w' => r = .returned (.tuple #[zeroD, .int .i64 5]) ∧ Gr w w' :=
  of4n _ w (by decide +kernel)
theorem copy_c (w : World) : Calls Tryz.prog 22 #[.float .f64 0, .float .f64 13830554455654793216] w fun e w' => e = .returned (.float .f64 9223372036854775808) ∧ w' = w := by
  refine (copy49 _ _ w).mono ?_
  rintro e w' ⟨rfl, h⟩
  exact ⟨by rw [show copyN 0 13830554455654793216 = 9223372036854775808 by decide +kernel], h⟩
end Go.Proofs.YtnmdnhmfmahjaaaGreatDoor.Fl
namespace Go.Proofs.YtnmdnhmfmahjaaaGreatDoor
open Go.RowKit
set_option linter.unusedVariables false

theorem one_dy {w : World} {a : Option Addr} {c : Nat} {s : Bool} {e : Int} (h : Lim w a 1 c 18446744073709551616 1) (h1 : -1048576 ≤ e) (h2 : e ≤ 1048576) : DyAt w s a (0 + 1) c e 1 := ⟨h, by omega, Or.inr ⟨0, rfl, h1, h2⟩⟩
/-- an answer with this error; what else it holds is not said -/
def Err (g : Int) (w1 : World) (r : Ending) (w' : World) : Prop := ∃ s ad n cap e, r = .returned (.tuple #[.agg #[.bool s, .slice ad n cap, .int .i64 e], .int .i64 g]) ∧ Gr w1 w'
theorem Err.mk {g : Int} {w1 : World} {r : Ending} {w' : World} (h : r = .returned (.tuple #[zeroD, .int .i64 g])) (hg : Gr w1 w') : Err g w1 r w' := ⟨false, none, 0, 0, 0, h, hg⟩
theorem sc_c (a : Option Addr) (c : Nat) (w : World) (h : Lim w a 1 c 18446744073709551616 1) (hT : TabAt 1 Lib.deBruijn64tab w) :
    Calls Tryz.prog 19 #[.agg #[.bool false, .slice a 1 c, .int .i64 0], .int .i64 1048576] w (Err 0 w) := by
  refine (scale15m false a 0 c 1 0 1048576 w (one_dy h (by omega) (by omega)) hT (by omega) (by omega)).mono ?_
  rintro r w' ⟨hs, g⟩
  obtain ⟨ad, n, cap, h1, _⟩ := settled_odd (q := 0) hs (one_fits (by omega) (by omega))
  exact ⟨_, _, _, _, _, h1, g⟩
theorem sc_d (a : Option Addr) (c : Nat) (w : World) (h : Lim w a 1 c 18446744073709551616 1) (hT : TabAt 1 Lib.deBruijn64tab w) :
    Calls Tryz.prog 19 #[.agg #[.bool false, .slice a 1 c, .int .i64 0], .int .i64 1048577] w (Err 3 w) := by
  refine (scale15m false a 0 c 1 0 1048577 w (one_dy h (by omega) (by omega)) hT (by omega) (by omega)).mono ?_
  rintro r w' ⟨hs, g⟩
  exact Err.mk (settled_far (q := 0) hs (Or.inr (by omega))) g
theorem sc_z (w : World) :
    Calls Tryz.prog 19 #[.agg #[.bool false, .slice none 0 0, .int .i64 0], .int .i64 4611686018427387904] w fun r w' => r = .returned (.tuple #[.agg #[.bool false, .slice none 0 0, .int .i64 0], .int .i64 0]) ∧ Gr w w' :=
  scale15z false none 0 0 0 4611686018427387904 w (r35t false none 0 0 0 [] w (Row.empty (by omega) (fun _ => rfl)) (by simp) (Or.inl ⟨rfl, rfl, rfl⟩))
theorem mul_f (a b : Option Addr) (c d : Nat) (w : World) (h : Lim w a 1 c 18446744073709551616 1) (k : Lim w b 1 d 18446744073709551616 1) (hT : TabAt 1 Lib.deBruijn64tab w) :
    Calls Tryz.prog 21 #[.agg #[.bool false, .slice a 1 c, .int .i64 524288], .agg #[.bool false, .slice b 1 d, .int .i64 524289]] w (Err 3 w) := by
  refine (mulS false false a b 1 1 c d 524288 524289 1 1 w (one_dy h (by omega) (by omega)) (one_dy k (by omega) (by omega)) hT).mono ?_
  rintro r w' ⟨hs, g⟩
  have hk := KK_eq
  exact Err.mk (settled_far (q := 0) (setv_odd hs (e := 1048577) rfl (by omega)) (Or.inr (by omega))) g
theorem one_right {w : World} {a : Option Addr} {c : Nat} {s : Bool} {e : Int} (h : Lim w a 1 c 18446744073709551616 1) (h1 : -1048576 ≤ e) (h2 : e ≤ 1048576) : Hid (∀ w1, Gr w w1 → Calls Tryz.prog 27 #[.agg #[.bool s, .slice a 1 c, .int .i64 e]] w1 fun r w' => r = .returned (.bool true) ∧ Gr w1 w') := (one_dy h h1 h2).r26
theorem cut_l (a : Option Addr) (c : Nat) (w : World) (h : Lim w a 1 c 18446744073709551616 1) :
    Calls Tryz.prog 10 #[.agg #[.bool false, .slice a 1 c, .int .i64 0], .int .i64 1048577, .bool false] w (Err 2 w) := by
  refine (cutB false false a 1 c 0 1048577 w (one_right h (by omega) (by omega)) (fun w1 => rexp37f _ w1 (by omega))).mono ?_
  rintro r w' ⟨hs, g⟩
  exact Err.mk hs g
theorem root_m (a : Option Addr) (c : Nat) (w : World) (h : Lim w a 1 c 18446744073709551616 1) :
    Calls Tryz.prog 14 #[.agg #[.bool true, .slice a 1 c, .int .i64 0], .int .i64 0, .bool false] w (Err 2 w) := by
  refine (rootN false a 1 c 0 0 w (one_right h (by omega) (by omega))).mono ?_
  rintro r w' ⟨hs, g⟩
  exact Err.mk hs g
/-- the full row, as a dyad -/
theorem Full.dy {F Q M : Nat} (hF : Full F Q M) {w : World} {ad : Option Addr} {n cap : Nat} (hn : n + 1 = 4096) (h : Lim w ad (n + 1) cap 18446744073709551616 F) {e : Int} (h1 : -1048576 ≤ e) (h2 : e ≤ 1048576) : DyAt w false ad (n + 1) cap e F := ⟨h, by omega, Or.inr ⟨Q, hF.odd, h1, h2⟩⟩
theorem Full.row {F Q M : Nat} (hF : Full F Q M) {w : World} {ad : Option Addr} {n cap : Nat} {xs : List Nat} (hn : n = 4096) (h : Row w ad n cap xs) (hx : xs = List.replicate n 18446744073709551615) : Lim w ad n cap 18446744073709551616 F := by
  refine ⟨xs, h, ?_, ?_, ?_⟩
  · rw [hx]; exact hF.nv hn
  · rw [hx]; intro x hm; rw [(List.mem_replicate.1 hm).2]; omega
  · intro k hk
    rw [h.len] at hk
    rw [hx, List.getD_eq_getElem?_getD, List.getElem?_replicate, if_pos (by omega)]
    simp
theorem add_x {F Q M : Nat} (hF : Full F Q M) (f a : Option Addr) (n k c : Nat) (hn : n + 1 = 4096) (w : World) (hf : Lim w f (n + 1) k 18446744073709551616 F) (h : Lim w a 1 c 18446744073709551616 1) (hT : TabAt 1 Lib.deBruijn64tab w) :
    Calls Tryz.prog 23 #[.agg #[.bool false, .slice f (n + 1) k, .int .i64 0], .agg #[.bool false, .slice a 1 c, .int .i64 0]] w (Told false 1 262144 0 w) := by
  refine (addS false false f a (n + 1) 1 k c 0 0 F 1 w (hF.dy hn hf (by omega) (by omega)) (one_dy h (by omega) (by omega)) hT).mono ?_
  rintro r w' ⟨hs, g⟩
  have hk := KK_eq
  obtain ⟨ad, n, cap, h1, h2⟩ := settled_odd (setv_odd hs hF.a (by omega)) (one_fits (by omega) (by omega))
  exact ⟨ad, n, cap, h1, h2, g⟩
theorem Told.no {w w' : World} {r : Ending} {g : Int} (h : r = .returned (.tuple #[zeroD, .int .i64 g])) (hg : Gr w w') : Told false 0 0 g w r w' := ⟨none, 0, 0, h, nil_lim w', hg⟩
theorem add_o {F Q M : Nat} (hF : Full F Q M) (f a : Option Addr) (n k c : Nat) (hn : n + 1 = 4096) (w : World) (hf : Lim w f (n + 1) k 18446744073709551616 F) (h : Lim w a 1 c 18446744073709551616 1) (hT : TabAt 1 Lib.deBruijn64tab w) :
    Calls Tryz.prog 23 #[.agg #[.bool false, .slice f (n + 1) k, .int .i64 0], .agg #[.bool false, .slice a 1 c, .int .i64 262144]] w (Told false 0 0 3 w) := by
  refine (addS false false f a (n + 1) 1 k c 0 262144 F 1 w (hF.dy hn hf (by omega) (by omega)) (one_dy h (by omega) (by omega)) hT).mono ?_
  rintro r w' ⟨hs, g⟩
  have hk := KK_eq
  have hS := setv_odd hs hF.b (by omega)
  rw [← Nat.one_mul (2 * F + 1), ← Nat.pow_zero 2] at hS
  exact Told.no (settled_no hS (hF.no _)) g
theorem add_p {F Q M : Nat} (hF : Full F Q M) (f a : Option Addr) (n k c : Nat) (hn : n + 1 = 4096) (w : World) (hf : Lim w f (n + 1) k 18446744073709551616 F) (h : Lim w a 1 c 18446744073709551616 1) (hT : TabAt 1 Lib.deBruijn64tab w) :
    Calls Tryz.prog 23 #[.agg #[.bool false, .slice f (n + 1) k, .int .i64 0], .agg #[.bool false, .slice a 1 c, .int .i64 (-1)]] w (Told false 0 0 3 w) := by
  refine (addS false false f a (n + 1) 1 k c 0 (-1) F 1 w (hF.dy hn hf (by omega) (by omega)) (one_dy h (by omega) (by omega)) hT).mono ?_
  rintro r w' ⟨hs, g⟩
  have hk := KK_eq
  have hS := setv_odd hs hF.c (by omega)
  rw [← Nat.one_mul (2 * F + 1), ← Nat.pow_zero 2] at hS
  exact Told.no (settled_no hS (hF.no _)) g
theorem cut_q {F Q M : Nat} (hF : Full F Q M) (f : Option Addr) (n k : Nat) (hn : n + 1 = 4096) (w : World) (hf : Lim w f (n + 1) k 18446744073709551616 F) (hT : TabAt 1 Lib.deBruijn64tab w) :
    Calls Tryz.prog 10 #[.agg #[.bool false, .slice f (n + 1) k, .int .i64 1048575], .int .i64 1048576, .bool true] w (Err 3 w) := by
  refine (cut_p false true rfl f n k F 1 1048575 1048576 w (hF.dy hn hf (by omega) (by omega)) hT (by omega) (by omega) (by omega) rfl).mono ?_
  rintro r w' ⟨hs, g⟩
  have e1 : F / 2 ^ 1 + 1 = 2 ^ (M - 1) * (2 * 0 + 1) := by
    have := hF.odd
    rw [← hF.hQ, Nat.pow_one]
    omega
  rw [e1] at hs
  refine Err.mk (settled_no hs ?_) g
  rintro ⟨_, _, h⟩
  have := hF.hM
  omega
theorem root_r (a : Option Addr) (c : Nat) (w : World) (h : Lim w a 1 c 18446744073709551616 1) :
    Calls Tryz.prog 14 #[.agg #[.bool false, .slice a 1 c, .int .i64 1048576], .int .i64 (-1048576), .bool false] w (Err 3 w) := by
  refine (root_l false a 0 c 1 1048576 (-1048576) 3145728 w (one_dy h (by omega) (by omega)) (by omega) (by omega) rfl (by rw [Fl.bl1]; omega)).mono ?_
  rintro r w' ⟨hs, g⟩
  exact Err.mk hs g
theorem root_y (a : Option Addr) (c : Nat) (w : World) (h : Lim w a 1 c 18446744073709551616 1) (hT : TabAt 1 Lib.deBruijn64tab w) :
    Calls Tryz.prog 14 #[.agg #[.bool false, .slice a 1 c, .int .i64 1048576], .int .i64 262145, .bool false] w (Told false 1 524288 0 w) := by
  obtain ⟨pw, hpw⟩ : ∃ pw : Int, 1048576 - 2 * 262145 = pw := ⟨_, rfl⟩
  obtain ⟨k, hk⟩ : ∃ k : Nat, k = 262143 := ⟨_, rfl⟩
  have hRM : RM 1 pw = 2 ^ k * 2 ^ k := by
    unfold RM
    rw [if_neg (by omega), Nat.one_mul, ← Nat.pow_add, show pw.toNat = k + k by omega]
  have hp := Nat.two_pow_pos k
  have H := root_p false a 0 c 1 (2 ^ k) 1048576 262145 w (one_dy h (by omega) (by omega)) hT (by omega) (by omega) (by rw [Fl.bl1]; omega)
  rw [hpw] at H
  refine (H (by rw [hRM]; exact Nat.le_refl _) (by rw [hRM]; exact Nat.mul_lt_mul_of_lt_of_lt (Nat.lt_succ_self _) (Nat.lt_succ_self _))).mono ?_
  rintro r w' ⟨hs, g⟩
  have e1 : RUp 1 pw (2 ^ k) false = 2 ^ k * (2 * 0 + 1) := by
    unfold RUp
    rw [if_neg (by simp)]
    omega
  rw [e1] at hs
  obtain ⟨ad, n, cap, h1, h2⟩ := settled_pow hs (one_fits (by omega) (by omega))
  rw [show (262145 : Int) + (k : Int) = 524288 by omega] at h1
  exact ⟨ad, n, cap, h1, h2, g⟩
/-- not right: each call says so -/
theorem two_not {w : World} {a : Option Addr} {c : Nat} {s : Bool} {e : Int} (h : Lim w a 1 c 18446744073709551616 2) : ∃ xs, Row w a 1 c xs ∧ (∀ x ∈ xs, x < 18446744073709551616) ∧ ¬ RightD s xs e := by
  obtain ⟨xs, r, d⟩ := h
  refine ⟨xs, r, d.2.1, fun hq => ?_⟩
  have dx := dyAt_of r d.2.1 hq
  rw [d.1] at dx
  rcases dx.odd with h | ⟨q, h⟩ <;> omega
theorem far_not {w : World} {a : Option Addr} {c : Nat} {s : Bool} {e : Int} (h : Lim w a 1 c 18446744073709551616 1) (he : e < -1048576 ∨ 1048576 < e) : ∃ xs, Row w a 1 c xs ∧ (∀ x ∈ xs, x < 18446744073709551616) ∧ ¬ RightD s xs e := by
  obtain ⟨xs, r, d⟩ := h
  refine ⟨xs, r, d.2.1, fun hq => ?_⟩
  have dx := dyAt_of r d.2.1 hq
  have h1 := dx.low
  have h2 := dx.high
  omega
/-- what the calls say of a dyad that is not right -/
def Odd4 (w : World) (s : Bool) (ad : Option Addr) (n cap : Nat) (e : Int) : Prop :=
  ∃ xs, Row w ad n cap xs ∧ (∀ x ∈ xs, x < 18446744073709551616) ∧ ¬ RightD s xs e
theorem Odd4.gr {w w' : World} {s : Bool} {ad : Option Addr} {n cap : Nat} {e : Int} (h : Odd4 w s ad n cap e) (g : Gr w w') : Odd4 w' s ad n cap e := by
  obtain ⟨xs, h1, h2, h3⟩ := h
  exact ⟨xs, h1.gr g, h2, h3⟩
theorem Odd4.r {w : World} {s : Bool} {ad : Option Addr} {n cap : Nat} {e : Int} (h : Odd4 w s ad n cap e) : Hid (∀ w1, Gr w w1 → Calls Tryz.prog 27 #[.agg #[.bool s, .slice ad n cap, .int .i64 e]] w1 fun r w' => r = .returned (.bool false) ∧ Gr w1 w') := by
  obtain ⟨xs, h1, h2, h3⟩ := h
  exact r35f s ad n cap e xs w h1 h2 h3
theorem Odd4.right {w : World} {s : Bool} {ad : Option Addr} {n cap : Nat} {e : Int} (h : Odd4 w s ad n cap e) : Calls Tryz.prog 27 #[.agg #[.bool s, .slice ad n cap, .int .i64 e]] w fun r w' => r = .returned (.bool false) ∧ Gr w w' := h.r.out w (Gr.refl w)
theorem Odd4.neg {w : World} {s : Bool} {ad : Option Addr} {n cap : Nat} {e : Int} (h : Odd4 w s ad n cap e) : Calls Tryz.prog 25 #[.agg #[.bool s, .slice ad n cap, .int .i64 e]] w (Err 2 w) := by
  refine (neg13A s ad n cap e w h.r).mono ?_
  rintro r w' ⟨hs, g⟩
  exact Err.mk hs g
theorem Odd4.cmp {w : World} {s : Bool} {ad : Option Addr} {n cap : Nat} {e : Int} (h : Odd4 w s ad n cap e) (t : Bool) (a : Option Addr) (m k : Nat) (f : Int) : Calls Tryz.prog 26 #[.agg #[.bool s, .slice ad n cap, .int .i64 e], .agg #[.bool t, .slice a m k, .int .i64 f]] w fun r w' => r = .returned (.tuple #[.int .i64 0, .int .i64 2]) ∧ Gr w w' :=
  cmp17A1 s t ad a n m cap k e f w h.r
theorem Odd4.float {w : World} {s : Bool} {ad : Option Addr} {n cap : Nat} {e : Int} (h : Odd4 w s ad n cap e) : Calls Tryz.prog 7 #[.agg #[.bool s, .slice ad n cap, .int .i64 e]] w fun r w' => r = .returned (.tuple #[.float .f64 0, .int .i64 2]) ∧ Gr w w' :=
  Fl.floatA s ad n cap e w h.r
theorem add_t (a b : Option Addr) (c d : Nat) (w : World) (h : Lim w a 1 c 18446744073709551616 2) :
    Calls Tryz.prog 23 #[.agg #[.bool false, .slice a 1 c, .int .i64 0], .agg #[.bool false, .slice b 1 d, .int .i64 0]] w (Err 2 w) := by
  refine (op6A1 false false a b 1 1 c d 0 0 w (Odd4.r (two_not h))).mono ?_
  rintro r w' ⟨hs, g⟩
  exact Err.mk hs g
end Go.Proofs.YtnmdnhmfmahjaaaGreatDoor
namespace Go.Proofs.YtnmdnhmfmahjaaaGreatDoor
open Go.RowKit
set_option linter.unusedVariables false

set_option maxHeartbeats 1600000 in
theorem copyL64 (ad : Option Addr) (n cap : Nat) (xs : List Nat) (w : World) (rx : Row w ad n cap xs) (n0 : 0 < n) (hn : n ≤ 4398046511104) :
    Calls Tryz.prog 64 #[.slice ad n cap] w fun r w' => ∃ ad' cap', r = .returned (.slice ad' n cap') ∧ Row w' ad' n cap' xs ∧ Gr w w' := by
  have hlen := rx.len
  have hle := rx.le
  have hmax := rx.max
  obtain ⟨b, off, rfl, hb, hc⟩ := rx.cells n0
  have HC : Hid (∀ j, j < n → w.cell? ⟨b, off + j, none⟩ = some (.int .u64 ((xs.getD j 0 : Nat) : Int))) := hc
  have RX := hide rx
  clear hc rx
  obtain ⟨i0, hi, hz0, hz1, hz2⟩ := info_parts Tryz.info41
  go_enter Tryz.func64, Tryz.ntmps64
  go_wp2_with (at_builtin; refine wpList_append_own _ rfl _ _ 22 rfl w.heap.size 41 i0 (.int .u64 0) 1 8 Tryz.underlying22 hi hz0 hz1 hz2 rfl (by decide) _ _ _ rfl (World.ownsRow_nil _ _ _ _) ⟨b, off, none⟩ n cap (u64s (xs.take n)) rfl ?c1 ?c2 ?c3 ?c4 ?c5 ?c6 ?_)
  case c1 => rw [u64s_length, List.length_take, hlen]; omega
  case c2 =>
    intro j u hu
    have := cells_u64 HC.out n (Nat.le_refl _) hlen j u hu
    unfold Addr.add
    split
    · rename_i h0
      subst h0
      exact this
    · exact this
  case c3 => exact one_u64 _
  case c4 => unfold maxLen; omega
  case c5 => omega
  case c6 => exact Nat.le_refl _
  intro v' w' hown hgr _
  obtain ⟨ad', cap', rfl, hrow⟩ := Row.of_owns hown
  rw [List.take_of_length_le (by omega)] at hrow
  go_wp2
  go_ret
  exact ⟨_, _, rfl, hrow, (Gr.refl w).grown hgr (fun k h => by cases h)⟩
theorem lim_set1 {w : World} {ad : Option Addr} {n cap B x : Nat} (h : Lim w ad n cap B x) {B2 : Nat} (hb : 0 < n → ∀ a, ad = some a → a.block ≠ B2) (i : Nat) (v : Value) : Lim (w.setCell ⟨B2, i, none⟩ v) ad n cap B x := by
  obtain ⟨xs, h1, h2⟩ := h
  refine ⟨xs, ⟨h1.len, h1.le, h1.max, h1.nil, fun hp => ?_⟩, h2⟩
  obtain ⟨b, off, hab, hlt, hc⟩ := h1.cells hp
  refine ⟨b, off, hab, by simpa [World.setCell] using hlt, fun j hj => ?_⟩
  rw [World.cell?_setCell_other _ _ _ _ (fun e => hb hp _ hab (by injection e with e1; exact e1.symm))]
  exact hc j hj
theorem first_block2 (w : World) (o1 o2 : Obj) : ((w.alloc o1).alloc o2).heap[w.heap.size]? = some o1 := ((Gr.refl (w.alloc o1)).alloc o2).keepH (blk1 w o1)
set_option maxHeartbeats 1600000 in
theorem copyD24 (s : Bool) (ad : Option Addr) (n cap x : Nat) (e : Int) (w : World) (hx : Lim w ad n cap 18446744073709551616 x) (n0 : 0 < n) (hn : n ≤ 4398046511104) :
    Calls Tryz.prog 24 #[.agg #[.bool s, .slice ad n cap, .int .i64 e]] w fun r w' => ∃ ad' cap', r = .returned (.agg #[.bool s, .slice ad' n cap', .int .i64 e]) ∧ Lim w' ad' n cap' 18446744073709551616 x ∧ Gr w w' := by
  have C : Hid (∀ w1, Gr w w1 → Calls Tryz.prog 64 #[.slice ad n cap] w1 fun r w' => ∃ ad' cap', r = .returned (.slice ad' n cap') ∧ Lim w' ad' n cap' 18446744073709551616 x ∧ Gr w1 w') := fun w1 g => by
    obtain ⟨xs, r, d⟩ := hx
    refine (copyL64 ad n cap xs w1 (r.gr g) n0 hn).mono ?_
    rintro r w' ⟨ad', cap', h1, h2, h3⟩
    exact ⟨ad', cap', h1, ⟨xs, h2, d⟩, h3⟩
  have G0 : Gr w ((w.alloc (.cells #[.bool s, .slice ad n cap, .int .i64 e] 24)).alloc (.cells #[.bool false, .slice none 0 0, .int .i64 0] 24)) := gr2 _ _
  have P0 := hide (first_block2 w (.cells #[.bool s, .slice ad n cap, .int .i64 e] 24) (.cells #[.bool false, .slice none 0 0, .int .i64 0] 24))
  have P1 := hide (second_block w (.cells #[.bool s, .slice ad n cap, .int .i64 e] 24) (.cells #[.bool false, .slice none 0 0, .int .i64 0] 24))
  go_enter Tryz.func24, Tryz.ntmps24
  go_wp2_with (go_at_call 64; (with_reducible refine (C.out _ G0).mono ?_); rintro r w1 ⟨ad', cap', rfl, hl, g1⟩; have Q0 := g1.keepH P0.out; have Q1 := g1.keepH P1.out; obtain ⟨d0, d1, d2⟩ := cells_ofT Q0; obtain ⟨f0, f1, f2⟩ := open_ofT Q0; obtain ⟨x0, x1, x2⟩ := cells_ofT Q1; obtain ⟨y0, y1, y2⟩ := open_ofT Q1)
  have ne : w.heap.size + 1 ≠ w.heap.size := by omega
  have a0 : ∀ i v, w1.cell? ⟨w.heap.size + 1, i, none⟩ = some v → (w1.setCell ⟨w.heap.size, 1, none⟩ (.slice ad' n cap')).cell? ⟨w.heap.size + 1, i, none⟩ = some v := fun i v h => by
    rw [World.cell?_setCell_other _ _ _ _ (fun e => ne (by injection e with e1; exact e1.symm))]
    exact h
  obtain ⟨t0, t1, t2⟩ := set3_at (v0 := .bool s) (v1 := .slice ad' n cap') (v2 := .int .i64 e) (a0 _ _ x0) (a0 _ _ x1) (a0 _ _ x2)
  have l1 : Lim (w1.setCell ⟨w.heap.size, 1, none⟩ (.slice ad' n cap')) ad' n cap' 18446744073709551616 x := lim_set1 hl (hl.apart Q0) _ _
  have q1 : (w1.setCell ⟨w.heap.size, 1, none⟩ (.slice ad' n cap')).heap[w.heap.size + 1]? = some (.cells #[.bool false, .slice none 0 0, .int .i64 0] 24) := by
    simp only [World.setCell, Array.getElem?_modify, if_neg (Ne.symm ne)]
    exact Q1
  have l2 := set3_lim l1 q1 (.bool s) (.slice ad' n cap') (.int .i64 e)
  have g2 := set3_gr ((G0.trans g1).setCell (p := ⟨w.heap.size, 1, none⟩) (Nat.le_refl _) (.slice ad' n cap')) (b := w.heap.size + 1) (by omega) (.bool s) (.slice ad' n cap') (.int .i64 e)
  refine bodyPost_ret (v := .agg #[.bool s, .slice ad' n cap', .int .i64 e]) ?_ rfl ⟨ad', cap', rfl, l2, g2⟩
  clear l1 l2 g2 q1 a0
  simp [results, Tryz.results24, go_sem, t0, t1, t2]
end Go.Proofs.YtnmdnhmfmahjaaaGreatDoor
