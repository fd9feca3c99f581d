import Derived.Test.YtcgbdpgfpickaaaK33
namespace Go.Proofs.Ytcgbdpgfpickaaa.Fl
open Go.RowKit
open Ieee
set_option linter.unusedVariables false

/-! BOUNDS THAT GROW: NUMBERS -/
theorem M_plus (r : Nat) (h : 4503599627370496 ≤ r) : M (r + 4503599627370496) = 2 * M r := by
  obtain ⟨f, h1, h2, h3⟩ := rung_parts r
  have e1 : r + 4503599627370496 = (ex r + 1) * 4503599627370496 + f := by omega
  have hf : 4503599627370496 ≤ f ∧ f ≤ 9007199254740992 := by
    rcases h3 with h3 | ⟨h3, h4⟩
    · omega
    · rw [h3] at h1; omega
  rw [e1, M_at _ _ (Or.inl hf)]
  unfold M
  rw [h2, Nat.pow_succ, ← Nat.mul_assoc, Nat.mul_comm]
theorem dbl_any (P : Nat) : ∃ R, M R = 2 * M P := by
  by_cases h : 4503599627370496 ≤ P
  · exact ⟨_, M_plus P h⟩
  · refine ⟨2 * P, ?_⟩
    have h1 := M_at 0 (2 * P) (Or.inr ⟨rfl, by omega⟩)
    have h2 := M_at 0 P (Or.inr ⟨rfl, by omega⟩)
    rw [Nat.zero_mul, Nat.zero_add, Nat.pow_zero, Nat.mul_one] at h1 h2
    rw [h1, h2]
theorem le_of_M {a b : Nat} (h : M a ≤ M b) : a ≤ b := Nat.le_of_not_lt fun hlt => by have := M_lt hlt; omega
def TurnR (k r r2 : Nat) : Prop := ∃ p, DirUp (M (uA.getD k 0) * M r) U p ∧ DirUp (M p + M 103582791429521408) 1 r2
def RingQ (k a b r2 : Nat) : Prop := ∃ p, RingR k a b p ∧ DirUp (M p + M 103582791429521408) 1 r2
theorem low_of {N r : Nat} (h : DirUp (N + M 103582791429521408) 1 r) : 103582791429521408 ≤ r := by
  by_cases hr : r < 9218868437227405312
  · have := h.2.1 hr
    exact le_of_M (by omega)
  · omega
theorem core_mono {X X' P P' r r' : Nat} (h1 : DirUp X U P) (h2 : DirUp X' U P') (h3 : DirUp (M P + M 103582791429521408) 1 r) (h4 : DirUp (M P' + M 103582791429521408) 1 r') (h : X ≤ X') : r ≤ r' := by
  have q := dirUp_mono U_pos U_pos h1 h2 (Nat.mul_le_mul_right _ h)
  exact dirUp_mono (by omega) (by omega) h3 h4 (Nat.mul_le_mul_right _ (Nat.add_le_add_right (M_le q) _))
theorem core_dbl {X P1 P2 q s R : Nat} (f1 : P1 < 9218868437227405312) (h1 : DirUp X U P1) (h2 : DirUp (2 * X) U P2) (h3 : DirUp (M P1 + M 103582791429521408) 1 q) (h4 : DirUp (M P2 + M 103582791429521408) 1 s) (fq : q < 9218868437227405312) (hR : M R = 2 * M q) : s ≤ R := by
  obtain ⟨R1, hR1⟩ := dbl_any P1
  have e1 := h1.2.1 f1
  have e2 : P2 ≤ R1 := dirUp_le h2 U_pos (by rw [hR1, Nat.mul_assoc]; exact Nat.mul_le_mul_left 2 e1)
  have e3 := M_le e2
  have e4 := h3.2.1 fq
  exact dirUp_le h4 (by omega) (by omega)
theorem uA_up : (List.range 14).all (fun k => decide (uA.getD k 0 ≤ uA.getD (k + 1) 0) && decide (uB.getD k 0 ≤ uB.getD (k + 1) 0) && decide (sqT.getD k 0 ≤ sqT.getD (k + 1) 0)) = true := by decide +kernel
theorem uA_next (k : Nat) (h : k ≤ 13) : uA.getD k 0 ≤ uA.getD (k + 1) 0 ∧ uB.getD k 0 ≤ uB.getD (k + 1) 0 ∧ sqT.getD k 0 ≤ sqT.getD (k + 1) 0 := by
  have := List.all_eq_true.1 uA_up k (List.mem_range.2 (by omega))
  simpa [and_assoc] using this
theorem turn_mono {k k' r r' x x' : Nat} (hu : uA.getD k 0 ≤ uA.getD k' 0) (hr : r ≤ r') (h : TurnR k r x) (h' : TurnR k' r' x') : x ≤ x' := by
  obtain ⟨p, h1, h2⟩ := h
  obtain ⟨p', h3, h4⟩ := h'
  exact core_mono h1 h3 h2 h4 (Nat.mul_le_mul (M_le hu) (M_le hr))
theorem c24' : M 4467570830351532032 * M 4638707616191610880 ≤ M 4499096027743125504 * U := by decide +kernel
theorem c177 : M 4499096027743125504 * M 5512405943901487104 ≤ M 5404319552844595200 * U := by decide +kernel
theorem c378 : M 5404319552844595200 * M 5512405943901487104 ≤ M 6309543077946064896 * U := by decide +kernel
theorem c379 : M 6309543077946064896 + M 103582791429521408 ≤ M 6314046677573435392 * 1 := by decide +kernel
theorem ring_small {k a b p : Nat} (hk : k ≤ 14) (ha : a ≤ 5512405943901487104) (hb : b ≤ 5512405943901487104) (h : RingR k a b p) : p ≤ 6309543077946064896 := by
  obtain ⟨p1, p2, h1, h2, h3, _, _⟩ := h
  obtain ⟨u1, u2⟩ := uB_at k hk
  obtain ⟨s1, s2, s3⟩ := sq_at k hk
  have q1 : p1 ≤ 4499096027743125504 := dirUp_le h1 U_pos (Nat.le_trans (Nat.mul_le_mul (M_le u2) (M_le s3)) c24')
  have q2 : p2 ≤ 5404319552844595200 := dirUp_le h2 U_pos (Nat.le_trans (Nat.mul_le_mul (M_le q1) (M_le ha)) c177)
  exact dirUp_le h3 U_pos (Nat.le_trans (Nat.mul_le_mul (M_le q2) (M_le hb)) c378)
theorem ringQ_small {k a b r : Nat} (hk : k ≤ 14) (ha : a ≤ 5512405943901487104) (hb : b ≤ 5512405943901487104) (h : RingQ k a b r) : r ≤ 6314046677573435392 := by
  obtain ⟨p, h1, h2⟩ := h
  exact dirUp_le h2 (by omega) (Nat.le_trans (Nat.add_le_add_right (M_le (ring_small hk ha hb h1)) _) c379)
theorem ring_mono {k k' a a' b b' x x' : Nat} (hu : uB.getD k 0 ≤ uB.getD k' 0) (hs : sqT.getD k 0 ≤ sqT.getD k' 0) (ha : a ≤ a') (hb : b ≤ b') (h : RingQ k a b x) (h' : RingQ k' a' b' x') : x ≤ x' := by
  obtain ⟨p, ⟨p1, p2, h1, h2, h3, _, _⟩, h4⟩ := h
  obtain ⟨q, ⟨q1, q2, g1, g2, g3, _, _⟩, g4⟩ := h'
  have e1 := dirUp_mono U_pos U_pos h1 g1 (Nat.mul_le_mul_right _ (Nat.mul_le_mul (M_le hu) (M_le hs)))
  have e2 := dirUp_mono U_pos U_pos h2 g2 (Nat.mul_le_mul_right _ (Nat.mul_le_mul (M_le e1) (M_le ha)))
  exact core_mono h3 g3 h4 g4 (Nat.mul_le_mul (M_le e2) (M_le hb))
theorem turn_dbl {k b b2 q s R : Nat} (hk : k ≤ 14) (hb : b ≤ 5512405943901487104) (hb2 : M b2 = 2 * M b) (h : TurnR k b q) (h' : TurnR k b2 s) (hR : M R = 2 * M q) : s ≤ R := by
  obtain ⟨p, h1, h2⟩ := h
  obtain ⟨p', h3, h4⟩ := h'
  obtain ⟨u1, u2⟩ := uA_at k hk
  have q1 : p ≤ 8525314094612348928 := dirUp_le h1 U_pos (Nat.le_trans (Nat.mul_le_mul (M_le u2) (M_le (show b ≤ 8660422083433463808 by omega))) c870)
  have fq := turn_fin u2 (show b ≤ 8660422083433463808 by omega) h1 h2
  rw [hb2, Nat.mul_left_comm] at h3
  exact core_dbl (by omega) h1 h3 h2 h4 fq hR
theorem ring_dbl {k c b b2 q s R : Nat} (hk : k ≤ 14) (hc : c ≤ 5512405943901487104) (hb : b ≤ 5512405943901487104) (hb2 : M b2 = 2 * M b) (h : RingQ k c b q) (h' : RingQ k c b2 s) (hR : M R = 2 * M q) : s ≤ R := by
  have fq := ringQ_small hk hc hb h
  obtain ⟨p, hp, h4⟩ := h
  have fp := ring_small hk hc hb hp
  obtain ⟨p1, p2, h1, h2, h3, _, _⟩ := hp
  obtain ⟨q, ⟨q1, q2, g1, g2, g3, _, _⟩, g4⟩ := h'
  obtain rfl := dirUp_one U_pos h1 g1
  obtain rfl := dirUp_one U_pos h2 g2
  rw [hb2, Nat.mul_left_comm] at g3
  exact core_dbl (by omega) h3 g3 h4 g4 (by omega) hR
/-! ONE ANSWER FOR EACH INPUT -/
theorem detTurn (k r : Nat) (hk : k ≤ 14) (hr : r ≤ 5512405943901487104) : ∃ x, TurnR k r x ∧ x < 9218868437227405312 ∧ ∀ w, Calls Try.prog 9 #[.int .i64 (k : Int), .float .f64 r] w fun e w' => e = .returned (.tuple #[.float .f64 x, .int .i64 0]) ∧ Gr w w' := by
  obtain ⟨u1, u2⟩ := uA_at k hk
  obtain ⟨p, hp⟩ := mul_ex (uA.getD k 0) r (by omega) (by omega)
  obtain ⟨r2, h2⟩ := up_ex p hp.1
  refine ⟨r2, ⟨p, hp, h2⟩, turn_fin u2 (by omega) hp h2, fun w => (turnP k false r w hk (by omega) (fun h => by cases h)).mono ?_⟩
  rintro e w' ⟨⟨q2, ⟨q, g1, g2, _⟩, rfl⟩, g⟩
  obtain rfl := dirUp_one U_pos g1 hp
  obtain rfl := dirUp_one (by omega) g2 h2
  exact ⟨rfl, g⟩
theorem detRing (k a b : Nat) (hk : k ≤ 14) (ha : a ≤ 5512405943901487104) (hb : b ≤ 5512405943901487104) : ∃ x, RingQ k a b x ∧ x < 9218868437227405312 ∧ ∀ w, Calls Try.prog 11 #[.int .i64 (k : Int), .float .f64 a, .float .f64 b] w fun e w' => e = .returned (.tuple #[.float .f64 x, .int .i64 0]) ∧ Gr w w' := by
  obtain ⟨u1, u2⟩ := uB_at k hk
  obtain ⟨s1, s2, s3⟩ := sq_at k hk
  obtain ⟨p1, h1⟩ := mul_ex (uB.getD k 0) (sqT.getD k 0) (by omega) (by omega)
  have q1 : p1 ≤ 4499096027743125504 := dirUp_le h1 U_pos (Nat.le_trans (Nat.mul_le_mul (M_le u2) (M_le s3)) c24')
  obtain ⟨p2, h2⟩ := mul_ex p1 a (by omega) (by omega)
  have q2 : p2 ≤ 5404319552844595200 := dirUp_le h2 U_pos (Nat.le_trans (Nat.mul_le_mul (M_le q1) (M_le ha)) c177)
  obtain ⟨p, h3⟩ := mul_ex p2 b (by omega) (by omega)
  have hR : RingR k a b p := ⟨p1, p2, h1, h2, h3, by omega, by omega⟩
  obtain ⟨r2, h4⟩ := up_ex p h3.1
  have hQ : RingQ k a b r2 := ⟨p, hR, h4⟩
  have hs := ringQ_small hk ha hb hQ
  refine ⟨r2, hQ, by omega, fun w => (ringP k false false a b w hk (by omega) (fun h => by cases h) (by omega) (fun h => by cases h)).mono ?_⟩
  rintro e w' ⟨⟨q, q2, g1, g2, rfl⟩, g⟩
  obtain rfl := ring_one g1 hR
  obtain rfl := dirUp_one (by omega) g2 h4
  refine ⟨?_, g⟩
  rw [if_neg (by omega), if_neg (by omega)]
end Go.Proofs.Ytcgbdpgfpickaaa.Fl
namespace Go.Proofs.Ytcgbdpgfpickaaa.Fl
open Go.RowKit
open Ieee
set_option linter.unusedVariables false

theorem pick14 (x : Int) (w : World) : Calls Try.prog 18 #[.int .i64 x, .int .i64 14] w fun r w' => (∃ p : Nat, r = .returned (.int .i64 (p : Int)) ∧ p ≤ 13) ∧ w' = w := by
  have b1 : -14 < x.tmod 14 := by have := Int.lt_tmod_of_pos x (by omega : (0 : Int) < 14); omega
  have b2 : x.tmod 14 < 14 := Int.tmod_lt_of_pos x (by omega)
  have h8 : ((14 : Int) == 0) = false := by decide
  generalize hy : x.tmod 14 = y at *
  by_cases hn : y < 0
  · go_enter Try.func18, Try.ntmps18
    go_wp2
    go_ret
    exact ⟨⟨(y + 14).toNat, by rw [show ((y + 14).toNat : Int) = y + 14 by omega]; rfl, by omega⟩, rfl⟩
  · go_enter Try.func18, Try.ntmps18
    go_wp2
    go_ret
    exact ⟨⟨y.toNat, by rw [show (y.toNat : Int) = y by omega]; rfl, by omega⟩, rfl⟩
/-- tame -/
def tmB (x : Nat) : Bool := zeroB x || ((FloatKind.f64.format.order (absN x) 3706462493325918208 == some .gt || FloatKind.f64.format.order (absN x) 3706462493325918208 == some .eq) && (FloatKind.f64.format.order (absN x) 5507902344274116608 == some .lt || FloatKind.f64.format.order (absN x) 5507902344274116608 == some .eq))
theorem tame20 (x : Nat) (w : World) : Calls Try.prog 20 #[.float .f64 x] w fun e w' => e = .returned (.float .f64 (if tmB x = true then x else 4613937818241073152)) ∧ w' = w := by
  cases h1 : zeroB x
  · cases h2 : (FloatKind.f64.format.order (absN x) 3706462493325918208 == some .gt || FloatKind.f64.format.order (absN x) 3706462493325918208 == some .eq)
    · have ht : tmB x = false := by unfold tmB; rw [h1, h2]; rfl
      rw [if_neg (by rw [ht]; decide)]
      unfold zeroB at h1
      go_enter Try.func20, Try.ntmps20
      go_wp2_with (go_at_call 19; with_reducible refine (abs16 _ _).mono ?_; rintro e w' ⟨rfl, rfl⟩)
      go_ret
      exact ⟨rfl, rfl⟩
    · cases h3 : (FloatKind.f64.format.order (absN x) 5507902344274116608 == some .lt || FloatKind.f64.format.order (absN x) 5507902344274116608 == some .eq)
      · have ht : tmB x = false := by unfold tmB; rw [h1, h2, h3]; rfl
        rw [if_neg (by rw [ht]; decide)]
        unfold zeroB at h1
        go_enter Try.func20, Try.ntmps20
        go_wp2_with (go_at_call 19; with_reducible refine (abs16 _ _).mono ?_; rintro e w' ⟨rfl, rfl⟩)
        go_ret
        exact ⟨rfl, rfl⟩
      · have ht : tmB x = true := by unfold tmB; rw [h1, h2, h3]; rfl
        rw [if_pos ht]
        unfold zeroB at h1
        go_enter Try.func20, Try.ntmps20
        go_wp2_with (go_at_call 19; with_reducible refine (abs16 _ _).mono ?_; rintro e w' ⟨rfl, rfl⟩)
        go_ret
        exact ⟨rfl, rfl⟩
  · have ht : tmB x = true := by unfold tmB; rw [h1]; rfl
    rw [if_pos ht]
    unfold zeroB at h1
    go_enter Try.func20, Try.ntmps20
    go_wp2_with (go_at_call 19; with_reducible refine (abs16 _ _).mono ?_; rintro e w' ⟨rfl, rfl⟩)
    go_ret
    exact ⟨rfl, rfl⟩
theorem M_same {a b : Nat} (h : M a = M b) : a = b := Nat.le_antisymm (le_of_M (by omega)) (le_of_M (by omega))
/-- the rung of a tamed number's size -/
theorem tame_rung (s : Bool) (r : Nat) (hr : r < 9223372036854775808) : ∃ q, (q = 0 ∨ 3706462493325918208 ≤ q) ∧ q ≤ 5507902344274116608 ∧ absN (if tmB (W s r) = true then W s r else 4613937818241073152) = q := by
  by_cases ht : tmB (W s r) = true
  · rw [if_pos ht, abs_W s r hr]
    refine ⟨r, ?_, ?_, rfl⟩
    all_goals
      by_cases hn : r ≤ 9218868437227405312
      · unfold tmB at ht
        rw [zeroB_W s r hn, abs_W s r hr] at ht
        have e1 := B_gt false false r 3706462493325918208 hn (by omega)
        have e2 := B_eq false false r 3706462493325918208 hn (by omega)
        have e3 := B_lt false false r 5507902344274116608 hn (by omega)
        have e4 := B_eq false false r 5507902344274116608 hn (by omega)
        rw [show W false r = r from rfl, show W false 3706462493325918208 = 3706462493325918208 from rfl] at e1 e2
        rw [show W false r = r from rfl, show W false 5507902344274116608 = 5507902344274116608 from rfl] at e3 e4
        rw [e1, e2, e3, e4] at ht
        simp only [Bool.or_eq_true, Bool.and_eq_true, decide_eq_true_eq, val] at ht
        rcases ht with ht | ⟨h1, h2⟩
        · omega
        · have g1 : 3706462493325918208 ≤ r := le_of_M (by simp at h1; omega)
          have g2 : r ≤ 5507902344274116608 := le_of_M (by simp at h2; omega)
          omega
      · unfold tmB zeroB at ht
        rw [abs_W s r hr] at ht
        have n1 : ∀ y, FloatKind.f64.format.order (W s r) y = none := fun y => by rw [f64_format, order_nan_left s r y hr (by omega)]
        have n2 : ∀ y, FloatKind.f64.format.order r y = none := fun y => by
          have := order_nan_left false r y hr (by omega)
          rw [f64_format]
          exact this
        rw [n1, n2, n2] at ht
        cases ht
  · rw [if_neg ht]
    refine ⟨4613937818241073152, Or.inr (by omega), by omega, ?_⟩
    exact abs_W false 4613937818241073152 (by omega)
theorem leB {a b : Nat} (h : a ≤ b) (hb : b ≤ 9218868437227405312) : (FloatKind.f64.format.order a b == some .lt || FloatKind.f64.format.order a b == some .eq) = true := by
  have e3 := B_lt false false a b (by omega) hb
  have e4 := B_eq false false a b (by omega) hb
  rw [show W false a = a from rfl, show W false b = b from rfl] at e3 e4
  rw [e3, e4]
  have := M_le h
  by_cases hc : M a < M b
  · rw [decide_eq_true (show val false a < val false b by show (M a : Int) < M b; omega)]; rfl
  · rw [decide_eq_true (show val false a = val false b by show (M a : Int) = M b; omega), Bool.or_true]
theorem geB {a b : Nat} (h : b ≤ a) (ha : a ≤ 9218868437227405312) : (FloatKind.f64.format.order a b == some .gt || FloatKind.f64.format.order a b == some .eq) = true := by
  have e3 := B_gt false false a b ha (by omega)
  have e4 := B_eq false false a b ha (by omega)
  rw [show W false a = a from rfl, show W false b = b from rfl] at e3 e4
  rw [e3, e4]
  have := M_le h
  by_cases hc : M b < M a
  · rw [decide_eq_true (show val false b < val false a by show (M b : Int) < M a; omega)]; rfl
  · rw [decide_eq_true (show val false a = val false b by show (M a : Int) = M b; omega), Bool.or_true]
/-- twice a number -/
theorem M_two : M 4611686018427387904 = 2 * U := by
  rw [← M_1]
  exact M_plus 4607182418800017408 (by omega)
theorem mul_two (a r : Nat) (ha : a < 9218868437227405312) (hr : r ≤ 9218868437227405312) (h : M r = 2 * M a) (w : World) : (binOp .mul 22 (.float .f64 4611686018427387904) (.float .f64 a)).run Try.prog w = .ok (.float .f64 r) w :=
  mul_run w _ _ _ (mul_exact false false 4611686018427387904 a r (by omega) ha hr (by rw [M_two, h, Nat.mul_right_comm]))
end Go.Proofs.Ytcgbdpgfpickaaa.Fl
namespace Go.Proofs.Ytcgbdpgfpickaaa.Fl
open Go.RowKit
open Ieee
set_option linter.unusedVariables false

theorem ord_rung (a b : Nat) (ha : a ≤ 9218868437227405312) (hb : b ≤ 9218868437227405312) : FloatKind.f64.format.order a b = some (compare (M a : Int) (M b : Int)) := by
  have := order_W false false a b ha hb
  rw [f64_format]
  exact this
theorem min_run (a b : Nat) (ha : a ≤ 9218868437227405312) (hb : b ≤ 9218868437227405312) (T : Array TypeId) (t : TypeId) (w : World) : (Builtin.min_ T t #[.float .f64 a, .float .f64 b]).run Try.prog w = .ok (.float .f64 (min a b)) w := by
  have e : Builtin.min_ T t #[.float .f64 a, .float .f64 b] = Builtin.min2 (.float .f64 a) (.float .f64 b) := by
    show List.foldlM Builtin.min2 (.float .f64 a) [.float .f64 b] = _
    simp
  rw [e]
  unfold Builtin.min2
  simp only []
  rw [ord_rung a b ha hb]
  rcases Nat.lt_trichotomy a b with h | h | h
  · rw [compare_lt (by have := M_lt h; omega), Nat.min_eq_left (by omega)]; rfl
  · subst h
    rw [compare_eq rfl, Nat.min_self]
    simp
  · rw [compare_gt (by have := M_lt h; omega), Nat.min_eq_right (by omega)]; rfl
theorem max_run (a b : Nat) (ha : a ≤ 9218868437227405312) (hb : b ≤ 9218868437227405312) (T : Array TypeId) (t : TypeId) (w : World) : (Builtin.max_ T t #[.float .f64 a, .float .f64 b]).run Try.prog w = .ok (.float .f64 (max a b)) w := by
  have e : Builtin.max_ T t #[.float .f64 a, .float .f64 b] = Builtin.max2 (.float .f64 a) (.float .f64 b) := by
    show List.foldlM Builtin.max2 (.float .f64 a) [.float .f64 b] = _
    simp
  rw [e]
  unfold Builtin.max2
  simp only []
  rw [ord_rung a b ha hb]
  rcases Nat.lt_trichotomy a b with h | h | h
  · rw [compare_lt (by have := M_lt h; omega), Nat.max_eq_right (by omega)]; rfl
  · subst h
    rw [compare_eq rfl, Nat.max_self]
    simp
  · rw [compare_gt (by have := M_lt h; omega), Nat.max_eq_left (by omega)]; rfl
theorem turnR_small {k r x : Nat} (hk : k ≤ 14) (hr : r ≤ 5512405943901487104) (h : TurnR k r x) : x ≤ 8529817694239719424 := by
  obtain ⟨p, h1, h2⟩ := h
  obtain ⟨u1, u2⟩ := uA_at k hk
  have q1 : p ≤ 8525314094612348928 := dirUp_le h1 U_pos (Nat.le_trans (Nat.mul_le_mul (M_le u2) (M_le (show r ≤ 8660422083433463808 by omega))) c870)
  exact dirUp_le h2 (by omega) (Nat.le_trans (Nat.add_le_add_right (M_le q1) _) c871)
set_option maxRecDepth 10000 in
set_option maxHeartbeats 4000000 in
theorem growsW (o : Int) (x y z xa ya za A B C lo hi hi2 k p q r s t u v w' X Rq Rx : Nat) (w : World)
    (T1 : Hid (∀ w, Calls Try.prog 20 #[.float .f64 x] w fun e w' => e = .returned (.float .f64 xa) ∧ w' = w)) (T2 : Hid (∀ w, Calls Try.prog 20 #[.float .f64 y] w fun e w' => e = .returned (.float .f64 ya) ∧ w' = w)) (T3 : Hid (∀ w, Calls Try.prog 20 #[.float .f64 z] w fun e w' => e = .returned (.float .f64 za) ∧ w' = w))
    (A1 : Hid (∀ w, Calls Try.prog 19 #[.float .f64 xa] w fun e w' => e = .returned (.float .f64 A) ∧ w' = w)) (A2 : Hid (∀ w, Calls Try.prog 19 #[.float .f64 ya] w fun e w' => e = .returned (.float .f64 B) ∧ w' = w)) (A3 : Hid (∀ w, Calls Try.prog 19 #[.float .f64 za] w fun e w' => e = .returned (.float .f64 C) ∧ w' = w))
    (PK : Hid (∀ w, Calls Try.prog 18 #[.int .i64 o, .int .i64 14] w fun e w' => e = .returned (.int .i64 (k : Int)) ∧ w' = w)) (hk : k ≤ 13)
    (mn : ∀ w, (Builtin.min_ #[22, 22] 22 #[.float .f64 A, .float .f64 B]).run Try.prog w = .ok (.float .f64 lo) w) (mx : ∀ w, (Builtin.max_ #[22, 22] 22 #[.float .f64 A, .float .f64 B]).run Try.prog w = .ok (.float .f64 hi) w)
    (m1 : ∀ w, (binOp .mul 22 (.float .f64 4611686018427387904) (.float .f64 hi)).run Try.prog w = .ok (.float .f64 hi2) w) (m2 : ∀ w, (binOp .mul 22 (.float .f64 4611686018427387904) (.float .f64 q)).run Try.prog w = .ok (.float .f64 Rq) w) (m3 : ∀ w, (binOp .mul 22 (.float .f64 4611686018427387904) (.float .f64 X)).run Try.prog w = .ok (.float .f64 Rx) w)
    (C1 : Hid (∀ w, Calls Try.prog 9 #[.int .i64 (k : Int), .float .f64 lo] w fun e w' => e = .returned (.tuple #[.float .f64 p, .int .i64 0]) ∧ Gr w w'))
    (C2 : Hid (∀ w, Calls Try.prog 9 #[.int .i64 (k : Int), .float .f64 hi] w fun e w' => e = .returned (.tuple #[.float .f64 q, .int .i64 0]) ∧ Gr w w'))
    (C3 : Hid (∀ w, Calls Try.prog 9 #[.int .i64 ((k : Int) + 1), .float .f64 hi] w fun e w' => e = .returned (.tuple #[.float .f64 r, .int .i64 0]) ∧ Gr w w'))
    (C4 : Hid (∀ w, Calls Try.prog 9 #[.int .i64 (k : Int), .float .f64 hi2] w fun e w' => e = .returned (.tuple #[.float .f64 s, .int .i64 0]) ∧ Gr w w'))
    (D1 : Hid (∀ w, Calls Try.prog 11 #[.int .i64 (k : Int), .float .f64 lo, .float .f64 C] w fun e w' => e = .returned (.tuple #[.float .f64 t, .int .i64 0]) ∧ Gr w w'))
    (D2 : Hid (∀ w, Calls Try.prog 11 #[.int .i64 (k : Int), .float .f64 hi, .float .f64 C] w fun e w' => e = .returned (.tuple #[.float .f64 u, .int .i64 0]) ∧ Gr w w'))
    (D3 : Hid (∀ w, Calls Try.prog 11 #[.int .i64 ((k : Int) + 1), .float .f64 hi, .float .f64 C] w fun e w' => e = .returned (.tuple #[.float .f64 v, .int .i64 0]) ∧ Gr w w'))
    (D4 : Hid (∀ w, Calls Try.prog 11 #[.int .i64 (k : Int), .float .f64 C, .float .f64 hi2] w fun e w1 => e = .returned (.tuple #[.float .f64 w', .int .i64 0]) ∧ Gr w w1))
    (D5 : Hid (∀ w, Calls Try.prog 11 #[.int .i64 (k : Int), .float .f64 C, .float .f64 hi] w fun e w' => e = .returned (.tuple #[.float .f64 X, .int .i64 0]) ∧ Gr w w'))
    (f1 : (FloatKind.f64.format.order p 103582791429521408 == some .gt || FloatKind.f64.format.order p 103582791429521408 == some .eq) = true)
    (f2 : (FloatKind.f64.format.order p q == some .lt || FloatKind.f64.format.order p q == some .eq) = true)
    (f3 : (FloatKind.f64.format.order q r == some .lt || FloatKind.f64.format.order q r == some .eq) = true)
    (f4 : (FloatKind.f64.format.order q s == some .lt || FloatKind.f64.format.order q s == some .eq) = true)
    (f5 : (FloatKind.f64.format.order s Rq == some .lt || FloatKind.f64.format.order s Rq == some .eq) = true)
    (f6 : (FloatKind.f64.format.order t 103582791429521408 == some .gt || FloatKind.f64.format.order t 103582791429521408 == some .eq) = true)
    (f7 : (FloatKind.f64.format.order t u == some .lt || FloatKind.f64.format.order t u == some .eq) = true)
    (f8 : (FloatKind.f64.format.order u v == some .lt || FloatKind.f64.format.order u v == some .eq) = true)
    (f9 : (FloatKind.f64.format.order X w' == some .lt || FloatKind.f64.format.order X w' == some .eq) = true)
    (f10 : (FloatKind.f64.format.order w' Rx == some .lt || FloatKind.f64.format.order w' Rx == some .eq) = true) :
    Calls Try.prog 5 #[.int .i64 o, .float .f64 x, .float .f64 y, .float .f64 z] w fun e w1 => e = .returned (.bool true) ∧ Gr w w1 := by
  have AW := hide awake13
  have h00 : ((0 : Int) != 0) = false := by decide
  go_enter Try.func5, Try.ntmps5
  go_wp2_with (first
    | (go_at_call 13; with_reducible refine (AW.out _).mono ?_; rintro e w0 ⟨rfl, g0⟩)
    | (go_at_call 18; with_reducible refine (PK.out _).mono ?_; rintro e wz ⟨rfl, hwz⟩; obtain rfl := hwz.symm)
    | (go_at_call 20; with_reducible refine (T1.out _).mono ?_; rintro e wz ⟨rfl, hwz⟩; obtain rfl := hwz.symm)
    | (go_at_call 20; with_reducible refine (T2.out _).mono ?_; rintro e wz ⟨rfl, hwz⟩; obtain rfl := hwz.symm)
    | (go_at_call 20; with_reducible refine (T3.out _).mono ?_; rintro e wz ⟨rfl, hwz⟩; obtain rfl := hwz.symm)
    | (go_at_call 19; with_reducible refine (A1.out _).mono ?_; rintro e wz ⟨rfl, hwz⟩; obtain rfl := hwz.symm)
    | (go_at_call 19; with_reducible refine (A2.out _).mono ?_; rintro e wz ⟨rfl, hwz⟩; obtain rfl := hwz.symm)
    | (go_at_call 19; with_reducible refine (A3.out _).mono ?_; rintro e wz ⟨rfl, hwz⟩; obtain rfl := hwz.symm)
    | (go_at_call 9; with_reducible refine (C1.out _).mono ?_; rintro e w1 ⟨rfl, g1⟩; clear C1)
    | (go_at_call 9; with_reducible refine (C2.out _).mono ?_; rintro e w2 ⟨rfl, g2⟩; clear C2)
    | (go_at_call 9; with_reducible refine (C3.out _).mono ?_; rintro e w3 ⟨rfl, g3⟩)
    | (go_at_call 9; with_reducible refine (C4.out _).mono ?_; rintro e w4 ⟨rfl, g4⟩)
    | (go_at_call 11; with_reducible refine (D1.out _).mono ?_; rintro e w5 ⟨rfl, g5⟩; clear D1)
    | (go_at_call 11; with_reducible refine (D2.out _).mono ?_; rintro e w6 ⟨rfl, g6⟩; clear D2)
    | (go_at_call 11; with_reducible refine (D3.out _).mono ?_; rintro e w7 ⟨rfl, g7⟩)
    | (go_at_call 11; with_reducible refine (D4.out _).mono ?_; rintro e w8 ⟨rfl, g8⟩)
    | (go_at_call 11; with_reducible refine (D5.out _).mono ?_; rintro e w9 ⟨rfl, g9⟩))
  go_ret
  exact ⟨rfl, ((((((((g0.trans g1).trans g2).trans g3).trans g4).trans g5).trans g6).trans g7).trans g8).trans g9⟩
theorem pickN (x : Int) : ∃ p : Nat, p ≤ 13 ∧ ∀ w, Calls Try.prog 18 #[.int .i64 x, .int .i64 14] w fun r w' => r = .returned (.int .i64 (p : Int)) ∧ w' = w := by
  have b1 : -14 < x.tmod 14 := by have := Int.lt_tmod_of_pos x (by omega : (0 : Int) < 14); omega
  have b2 : x.tmod 14 < 14 := Int.tmod_lt_of_pos x (by omega)
  have h8 : ((14 : Int) == 0) = false := by decide
  generalize hy : x.tmod 14 = y at *
  by_cases hn : y < 0
  · refine ⟨(y + 14).toNat, by omega, fun w => ?_⟩
    rw [show ((y + 14).toNat : Int) = y + 14 by omega]
    go_enter Try.func18, Try.ntmps18
    go_wp2
    go_ret
    exact ⟨rfl, rfl⟩
  · refine ⟨y.toNat, by omega, fun w => ?_⟩
    rw [show (y.toNat : Int) = y by omega]
    go_enter Try.func18, Try.ntmps18
    go_wp2
    go_ret
    exact ⟨rfl, rfl⟩
theorem twice (r : Nat) (h : r = 0 ∨ 4503599627370496 ≤ r) : ∃ R, M R = 2 * M r ∧ r ≤ R ∧ R ≤ r + 4503599627370496 := by
  rcases h with rfl | h
  · exact ⟨0, by rw [M_zero], Nat.le_refl _, by omega⟩
  · exact ⟨_, M_plus r h, by omega, Nat.le_refl _⟩
theorem grows5 (o : Int) (s t u : Bool) (a b c : Nat) (w : World) (ha : a < 9223372036854775808) (hb : b < 9223372036854775808) (hc : c < 9223372036854775808) :
    Calls Try.prog 5 #[.int .i64 o, .float .f64 (W s a), .float .f64 (W t b), .float .f64 (W u c)] w fun e w1 => e = .returned (.bool true) ∧ Gr w w1 := by
  obtain ⟨A, A1, A2, A3⟩ := tame_rung s a ha
  obtain ⟨B, B1, B2, B3⟩ := tame_rung t b hb
  obtain ⟨C, C1, C2, C3⟩ := tame_rung u c hc
  obtain ⟨k, hk, PK⟩ := pickN o
  obtain ⟨n1, n2, n3⟩ := uA_next k hk
  have hlo : min A B ≤ 5507902344274116608 := by omega
  have hhi : max A B ≤ 5507902344274116608 ∧ (max A B = 0 ∨ 3706462493325918208 ≤ max A B) := by omega
  have hle : min A B ≤ max A B := by omega
  have mn := min_run A B (by omega) (by omega)
  have mx := max_run A B (by omega) (by omega)
  generalize min A B = lo at *
  generalize max A B = hi at *
  obtain ⟨hi2, e1, e2, e3⟩ := twice hi (by omega)
  obtain ⟨p, p1, p2, p3⟩ := detTurn k lo (by omega) (by omega)
  obtain ⟨q, q1, q2, q3⟩ := detTurn k hi (by omega) (by omega)
  obtain ⟨r, r1, r2, r3⟩ := detTurn (k + 1) hi (by omega) (by omega)
  obtain ⟨x, x1, x2, x3⟩ := detTurn k hi2 (by omega) (by omega)
  obtain ⟨d, d1, d2, d3⟩ := detRing k lo C (by omega) (by omega) (by omega)
  obtain ⟨f, f1, f2, f3⟩ := detRing k hi C (by omega) (by omega) (by omega)
  obtain ⟨g, g1, g2, g3⟩ := detRing (k + 1) hi C (by omega) (by omega) (by omega)
  obtain ⟨h, h1, h2, h3⟩ := detRing k C hi2 (by omega) (by omega) (by omega)
  obtain ⟨i, i1, i2, i3⟩ := detRing k C hi (by omega) (by omega) (by omega)
  have lq : 103582791429521408 ≤ q := by obtain ⟨_, _, hh⟩ := q1; exact low_of hh
  have lp : 103582791429521408 ≤ p := by obtain ⟨_, _, hh⟩ := p1; exact low_of hh
  have ld : 103582791429521408 ≤ d := by obtain ⟨_, _, hh⟩ := d1; exact low_of hh
  have li : 103582791429521408 ≤ i := by obtain ⟨_, _, hh⟩ := i1; exact low_of hh
  have sq := turnR_small (by omega) (by omega) q1
  have si := ringQ_small (by omega) (by omega) (by omega) i1
  obtain ⟨Rq, t1, t2, t3⟩ := twice q (by omega)
  obtain ⟨Rx, w1, w2, w3⟩ := twice i (by omega)
  have c1 : p ≤ q := turn_mono (Nat.le_refl _) hle p1 q1
  have c2 : q ≤ r := turn_mono n1 (Nat.le_refl _) q1 r1
  have c3 : q ≤ x := turn_mono (Nat.le_refl _) e2 q1 x1
  have c4 : x ≤ Rq := turn_dbl (by omega) (by omega) e1 q1 x1 t1
  have c5 : d ≤ f := ring_mono (Nat.le_refl _) (Nat.le_refl _) hle (Nat.le_refl _) d1 f1
  have c6 : f ≤ g := ring_mono n2 n3 (Nat.le_refl _) (Nat.le_refl _) f1 g1
  have c7 : i ≤ h := ring_mono (Nat.le_refl _) (Nat.le_refl _) (Nat.le_refl _) e2 i1 h1
  have c8 : h ≤ Rx := ring_dbl (by omega) (by omega) (by omega) e1 i1 h1 w1
  rw [show ((k + 1 : Nat) : Int) = (k : Int) + 1 by omega] at r3 g3
  exact growsW o (W s a) (W t b) (W u c) _ _ _ A B C lo hi hi2 k p q r x d f g h i Rq Rx w (fun w => tame20 _ w) (fun w => tame20 _ w) (fun w => tame20 _ w)
    (fun w => by have := abs16 (if tmB (W s a) = true then W s a else 4613937818241073152) w; rw [A3] at this; exact this) (fun w => by have := abs16 (if tmB (W t b) = true then W t b else 4613937818241073152) w; rw [B3] at this; exact this) (fun w => by have := abs16 (if tmB (W u c) = true then W u c else 4613937818241073152) w; rw [C3] at this; exact this)
    PK hk (mn _ _) (mx _ _) (mul_two hi hi2 (by omega) (by omega) e1) (mul_two q Rq q2 (by omega) t1) (mul_two i Rx i2 (by omega) w1) p3 q3 r3 x3 d3 f3 g3 h3 i3
    (geB lp (by omega)) (leB c1 (by omega)) (leB c2 (by omega)) (leB c3 (by omega)) (leB c4 (by omega)) (geB ld (by omega)) (leB c5 (by omega)) (leB c6 (by omega)) (leB c7 (by omega)) (leB c8 (by omega))
end Go.Proofs.Ytcgbdpgfpickaaa.Fl
