import Derived.Test.YtcgbdpgfpickaaaK07
namespace Go.Proofs.Ytcgbdpgfpickaaa.Fl
open Go.RowKit
open Ieee
set_option linter.unusedVariables false

/-- the square of what is near against what was there -/
theorem root_near {N c : Nat} (hN : 0 < N) (hn : Near (rootN N) 2 c) (hc : 0 < c) (hcI : c < 9218868437227405312) : M c * M c ≤ 4 * N ∧ N ≤ 4 * (M c * M c) := by
  obtain ⟨h1, h2, h3⟩ := hn
  constructor
  · by_cases h : c = 1
    · subst h
      rw [M_one]
      omega
    · have h4 := h3 hc
      have h5 : M (c - 1) * M (c - 1) ≤ N := le_rootN.1 (by omega)
      have h6 := M_dbl (c := c - 1) (by omega)
      rw [show c - 1 + 1 = c from by omega] at h6
      calc M c * M c ≤ 2 * M (c - 1) * (2 * M (c - 1)) := sq_le h6
        _ = 4 * (M (c - 1) * M (c - 1)) := by rw [Nat.mul_mul_mul_comm]
        _ ≤ 4 * N := Nat.mul_le_mul_left _ h5
  · have h4 := h2 hcI
    have h6 := M_dbl hc
    have h7 : ¬ 2 * M (c + 1) ≤ rootN N := by omega
    rw [le_rootN] at h7
    have h8 := sq_le h6
    rw [Nat.mul_mul_mul_comm] at h8
    omega

theorem root_range (ma mc Pa Pc N C : Nat) (ha : 4503599627370496 ≤ ma) (ha' : ma < 9007199254740992) (hc : 4503599627370496 ≤ mc) (hc' : mc < 9007199254740992)
    (hN : N * 2 ^ 104 = ma * 2 ^ (Pa + 1126)) (hC : C * 2 ^ 104 = mc * mc * 2 ^ (Pc + Pc)) (h1 : C ≤ 4 * N) (h2 : N ≤ 4 * C) : Pc + Pc ≤ Pa + 1076 ∧ Pa + 1071 ≤ Pc + Pc := by
  have l1 : 2 ^ 52 * 2 ^ 52 ≤ mc * mc := sq_le (by omega)
  have l2 : mc * mc < 2 ^ 53 * 2 ^ 53 := sq_lt (by omega)
  rw [← Nat.pow_add] at l1 l2
  constructor
  · have q1 : 2 ^ (52 + 52 + (Pc + Pc)) < 2 ^ (2 + 53 + (Pa + 1126)) := by
      calc 2 ^ (52 + 52 + (Pc + Pc)) = 2 ^ (52 + 52) * 2 ^ (Pc + Pc) := by rw [Nat.pow_add]
        _ ≤ mc * mc * 2 ^ (Pc + Pc) := Nat.mul_le_mul_right _ l1
        _ = C * 2 ^ 104 := hC.symm
        _ ≤ 4 * N * 2 ^ 104 := Nat.mul_le_mul_right _ h1
        _ = 4 * (ma * 2 ^ (Pa + 1126)) := by rw [Nat.mul_assoc, hN]
        _ < 4 * (2 ^ 53 * 2 ^ (Pa + 1126)) := Nat.mul_lt_mul_of_pos_left (Nat.mul_lt_mul_of_pos_right (by omega) (Nat.two_pow_pos _)) (by omega)
        _ = 2 ^ (2 + 53 + (Pa + 1126)) := by rw [Nat.pow_add 2 (2 + 53), Nat.pow_add 2 2, Nat.mul_assoc]
    have := (Nat.pow_lt_pow_iff_right (by omega : 1 < 2)).1 q1
    omega
  · have q1 : 2 ^ (52 + (Pa + 1126)) < 2 ^ (2 + (53 + 53) + (Pc + Pc)) := by
      calc 2 ^ (52 + (Pa + 1126)) = 2 ^ 52 * 2 ^ (Pa + 1126) := by rw [Nat.pow_add]
        _ ≤ ma * 2 ^ (Pa + 1126) := Nat.mul_le_mul_right _ (by omega)
        _ = N * 2 ^ 104 := hN.symm
        _ ≤ 4 * C * 2 ^ 104 := Nat.mul_le_mul_right _ h2
        _ = 4 * (mc * mc * 2 ^ (Pc + Pc)) := by rw [Nat.mul_assoc, hC]
        _ < 4 * (2 ^ (53 + 53) * 2 ^ (Pc + Pc)) := Nat.mul_lt_mul_of_pos_left (Nat.mul_lt_mul_of_pos_right l2 (Nat.two_pow_pos _)) (by omega)
        _ = 2 ^ (2 + (53 + 53) + (Pc + Pc)) := by rw [Nat.pow_add 2 (2 + (53 + 53)), Nat.pow_add 2 2, Nat.mul_assoc]
    have := (Nat.pow_lt_pow_iff_right (by omega : 1 < 2)).1 q1
    omega

theorem root_small {a c : Nat} (ha : a < 9218868437227405312) (hn : Near (rootN (M a * U)) 2 c) : c < 9218868437227405312 := by
  obtain ⟨h1, h2, h3⟩ := hn
  refine Nat.lt_of_not_le fun hge => ?_
  have hc : c = 9218868437227405312 := by omega
  subst hc
  have h4 := h3 (by omega)
  rw [show 9218868437227405312 - 1 = 9218868437227405311 from rfl] at h4
  have h5 : M 9218868437227405311 * M 9218868437227405311 ≤ M a * U := le_rootN.1 (by omega)
  obtain ⟨q, hq⟩ : ∃ q, q = ex 9218868437227405311 := ⟨_, rfl⟩
  have hq' : q = 2045 := hq
  have h6 := M_lower 9218868437227405311 (by rw [← hq, hq']; omega)
  rw [← hq] at h6
  have h7 := M_upper a
  have h8 : ex a ≤ q := by rw [hq']; unfold ex; omega
  have hE := E74_eq
  have h9 : M a * U < 9007199254740992 * 2 ^ q * 2 ^ E74 := by
    unfold U
    refine Nat.mul_lt_mul_of_pos_right (Nat.lt_of_lt_of_le h7 ?_) (Nat.two_pow_pos _)
    exact Nat.mul_le_mul_left _ (Nat.pow_le_pow_right (by omega) h8)
  have h10 := sq_le h6
  have h11 : 9007199254740992 * 2 ^ q * 2 ^ E74 ≤ 4503599627370496 * 2 ^ q * (4503599627370496 * 2 ^ q) := by
    rw [Nat.mul_mul_mul_comm, Nat.mul_assoc]
    refine Nat.mul_le_mul (by omega) ?_
    exact Nat.mul_le_mul_left _ (Nat.pow_le_pow_right (by omega) (by omega))
  exact absurd (Nat.lt_of_le_of_lt (Nat.le_trans h10 h5) (Nat.lt_of_lt_of_le h9 h11)) (Nat.lt_irrefl _)

theorem root_lt_iff (k n : Nat) : k * 2 < rootN n ↔ k * k < n := by
  have y1 := le_rootN (n := n) (k := k)
  have y2 := eq_rootN (n := n) (k := k)
  generalize rootN n = y at *
  generalize k * k = x at *
  omega
theorem lt_root_iff (k n : Nat) : rootN n < k * 2 ↔ n < k * k := by
  have y1 := le_rootN (n := n) (k := k)
  generalize rootN n = y at *
  generalize k * k = x at *
  omega
theorem pick_root1 (y z x n c : Nat) {R : Prop} [Decidable R] (hc : c < 9218868437227405312) (k1 : z < y ↔ x < n) (z1 : R ↔ x < n) : decide (0 < (y : Int) - (z : Int)) = decide (c < 9218868437227405312 ∧ R) := by
  refine decide_eq_decide.2 ?_
  rw [z1, ← k1]
  constructor
  · intro h; exact ⟨hc, by omega⟩
  · intro h; have := h.2; omega
theorem pick_root2 (y z x n c : Nat) {R : Prop} [Decidable R] (hc : c < 9218868437227405312) (k2 : y < z ↔ n < x) (z2 : R ↔ n < x) : decide ((y : Int) - (z : Int) < 0) = decide (c = 9218868437227405312 ∨ R) := by
  refine decide_eq_decide.2 ?_
  rw [z2, ← k2]
  constructor
  · intro h; exact Or.inr (by omega)
  · intro h; rcases h with h | h <;> omega
/-- one number has one first digit -/
theorem one_first {m P m' P' : Nat} (h1 : 4503599627370496 ≤ m) (h2 : m < 9007199254740992) (h3 : 4503599627370496 ≤ m') (h4 : m' < 9007199254740992) (h : m * 2 ^ P = m' * 2 ^ P') : P = P' := by
  rcases Nat.lt_trichotomy P P' with hl | hl | hl
  · exfalso
    have p := pow_dbl hl
    have q1 : m * 2 ^ P < 9007199254740992 * 2 ^ P := Nat.mul_lt_mul_of_pos_right h2 (Nat.two_pow_pos _)
    have q2 : 4503599627370496 * 2 ^ P' ≤ m' * 2 ^ P' := Nat.mul_le_mul_right _ h3
    omega
  · exact hl
  · exfalso
    have p := pow_dbl hl
    have q1 : m' * 2 ^ P' < 9007199254740992 * 2 ^ P' := Nat.mul_lt_mul_of_pos_right h4 (Nat.two_pow_pos _)
    have q2 : 4503599627370496 * 2 ^ P ≤ m * 2 ^ P := Nat.mul_le_mul_right _ h1
    omega
theorem half_facts (Pa Pc : Nat) (h3 : Pa ≤ 2097) (h4 : Pc ≤ 2097) (q1 : Pc + Pc ≤ Pa + 1076) (q2 : Pa + 1071 ≤ Pc + Pc) :
    ∃ (half : Int) (Qc Qa : Nat), ((Pa : Int) - 1073).tdiv 2 = half ∧ (Qc : Int) = -half + Pc - 52 ∧ (Qa : Int) = -2 * half + Pa - 52 ∧ Qc ≤ 2045 ∧ Qa ≤ 2045 ∧ E74 ≤ Qc + Qc ∧ -1500 ≤ half ∧ half ≤ 1500 ∧ Qa + E74 + (Pc + Pc) = Pa + 1126 + (Qc + Qc) := by
  have hE := E74_eq
  obtain ⟨half, hhalf⟩ : ∃ half : Int, ((Pa : Int) - 1073).tdiv 2 = half := ⟨_, rfl⟩
  have hr : ((Pa : Int) - 1073) - 2 * half = -1 ∨ ((Pa : Int) - 1073) - 2 * half = 0 ∨ ((Pa : Int) - 1073) - 2 * half = 1 := by
    have h1 := Int.mul_tdiv_add_tmod ((Pa : Int) - 1073) 2
    have h2 : -2 < ((Pa : Int) - 1073).tmod 2 ∧ ((Pa : Int) - 1073).tmod 2 < 2 := by
      constructor
      · have := Int.lt_tmod_of_pos ((Pa : Int) - 1073) (b := 2) (by omega); omega
      · have := Int.tmod_lt_of_pos ((Pa : Int) - 1073) (b := 2) (by omega); omega
    rw [hhalf] at h1
    omega
  refine ⟨half, (-half + Pc - 52).toNat, (-2 * half + Pa - 52).toNat, hhalf, ?_, ?_, ?_, ?_, ?_, ?_, ?_, ?_⟩ <;> omega

/-- what the root's error says -/
theorem sqrt_err (a c : Nat) (ha : a < 9218868437227405312) (ha0 : 0 < a) (hn : Near (rootN (M a * U)) 2 c) (hc : 0 < c) :
    ∃ o, (∀ w, Calls Try.prog 49 #[.float .f64 (W false a), .float .f64 (W false c)] w fun e w' => e = .returned (.float .f64 o) ∧ w' = w) ∧
      posB o = decide (c < 9218868437227405312 ∧ M c * 2 < rootN (M a * U)) ∧ negB o = decide (c = 9218868437227405312 ∨ rootN (M a * U) < M c * 2) := by
  have hU := U_pos
  have hcI := root_small ha hn
  have hNpos : 0 < M a * U := Nat.mul_pos (M_pos ha0) hU
  obtain ⟨n1, n2⟩ := root_near hNpos hn hc hcI
  obtain ⟨mf, Pf, f1, f2, f3, f4, f5⟩ := frexp_spec false a ha0 ha
  obtain ⟨ma, Pa, a1, a2, a3, a4, a5⟩ := ldexp_spec false a ha0 ha
  obtain ⟨mc, Pc, c1, c2, c3, c4, c5⟩ := ldexp_spec false c hc hcI
  have hPP : Pf = Pa := one_first f1 f2 a1 a2 (by rw [← f4, ← a4])
  rw [hPP] at f5
  have hN : M a * U * 2 ^ 104 = ma * 2 ^ (Pa + 1126) := by
    have e : Pa + 1126 = Pa + (52 + E74) := rfl
    rw [show (104 : Nat) = 52 + 52 from rfl, Nat.pow_add, e, Nat.pow_add, Nat.pow_add, ← Nat.mul_assoc ma, ← a4]
    unfold U
    rw [Nat.mul_mul_mul_comm, Nat.mul_comm (2 ^ E74) (2 ^ 52)]
  have hC : M c * M c * 2 ^ 104 = mc * mc * 2 ^ (Pc + Pc) := by
    rw [show (104 : Nat) = 52 + 52 from rfl, Nat.pow_add, Nat.mul_mul_mul_comm, c4, Nat.pow_add, Nat.mul_mul_mul_comm]
  obtain ⟨q1, q2⟩ := root_range ma mc Pa Pc _ _ a1 a2 c1 c2 hN hC n1 n2
  obtain ⟨half, Qc, Qa, hhalf, hQc, hQa, z1, z2, z3, z4, z5, z6⟩ := half_facts Pa Pc a3 c3 q1 q2
  clear n1 n2
  have b1 : -5000 ≤ -half ∧ -half ≤ 5000 ∧ -5000 ≤ -2 * half ∧ -2 * half ≤ 5000 := by clear hN hC a4 c4 f4 hNpos; omega
  have b2 : mc ≤ 9007199254740992 ∧ ma ≤ 9007199254740992 := by clear hN hC a4 c4 f4 hNpos; omega
  have hLc := c5 (-half) Qc b1.1 b1.2.1 hQc z1
  have hLa := a5 (-2 * half) Qa b1.2.2.1 b1.2.2.2 hQa z2
  have hMc : M (Qc * 4503599627370496 + mc) = mc * 2 ^ Qc := M_at Qc mc (Or.inl ⟨c1, b2.1⟩)
  have hMa : M (Qa * 4503599627370496 + ma) = ma * 2 ^ Qa := M_at Qa ma (Or.inl ⟨a1, b2.2⟩)
  have e1 : M (Qc * 4503599627370496 + mc) * M (Qc * 4503599627370496 + mc) * 2 ^ (Pc + Pc) = M c * M c * (2 ^ 104 * 2 ^ (Qc + Qc)) := by
    rw [hMc, Nat.mul_mul_mul_comm, ← Nat.pow_add, ← Nat.mul_assoc (M c * M c), hC, Nat.mul_right_comm]
  have e2 : M (Qa * 4503599627370496 + ma) * U * 2 ^ (Pc + Pc) = M a * U * (2 ^ 104 * 2 ^ (Qc + Qc)) := by
    rw [hMa, ← Nat.mul_assoc (M a * U), hN]
    unfold U
    rw [Nat.mul_assoc ma, ← Nat.pow_add, Nat.mul_assoc ma, ← Nat.pow_add, Nat.mul_assoc ma, ← Nat.pow_add]
    have e : Qa + E74 + (Pc + Pc) = Pa + 1126 + (Qc + Qc) := z6
    rw [e]
  obtain ⟨k1, k2⟩ := scaled (Nat.two_pow_pos _) (Nat.mul_pos (Nat.two_pow_pos _) (Nat.two_pow_pos _)) e1 e2
  have hdv : U ∣ M (Qc * 4503599627370496 + mc) * M (Qc * 4503599627370496 + mc) := by
    rw [hMc, Nat.mul_mul_mul_comm, ← Nat.pow_add]
    unfold U
    exact Nat.dvd_trans (Nat.pow_dvd_pow 2 z3) (Nat.dvd_mul_left ..)
  have hX : fmaX true false false (Qc * 4503599627370496 + mc) (Qc * 4503599627370496 + mc) (Qa * 4503599627370496 + ma) = ((M (Qa * 4503599627370496 + ma) * U : Nat) : Int) - ((M (Qc * 4503599627370496 + mc) * M (Qc * 4503599627370496 + mc) : Nat) : Int) := by
    unfold fmaX val
    rw [Int.natCast_mul (M (Qa * 4503599627370496 + ma)) U, Int.sub_eq_add_neg, Int.add_comm]
    simp only [Bool.xor_false, Bool.false_eq_true, if_true, if_false]
  have b3 : Qc * 4503599627370496 + mc < 9218868437227405312 ∧ Qa * 4503599627370496 + ma < 9218868437227405312 := by clear hN hC a4 c4 f4 hNpos hMc hMa e1 e2 hX; omega
  obtain ⟨so, d, g1, g2, g3, g4⟩ := fma_sign true false false (Qc * 4503599627370496 + mc) (Qc * 4503599627370496 + mc) (Qa * 4503599627370496 + ma) b3.1 b3.1 b3.2 (fmaX_dvd _ _ _ _ _ _ hdv)
  rw [hX] at g3 g4
  have b4 : -3000 ≤ (Pa : Int) - 1073 ∧ (Pa : Int) - 1073 ≤ 3000 := by clear hN hC a4 c4 f4 hNpos hMc hMa e1 e2 hX; omega
  refine ⟨_, fun w => root54 _ _ _ _ _ _ _ _ half w b4.1 b4.2 hhalf z4 z5 f5 hLc hLa (neg_W false _ (Nat.lt_trans b3.1 (by decide))) g2, ?_, ?_⟩
  · rw [g3]
    exact pick_root1 _ _ _ _ _ hcI k1 (root_lt_iff _ _)
  · rw [g4]
    exact pick_root2 _ _ _ _ _ hcI k2 (lt_root_iff _ _)

/-- WHAT Sqrt TELLS -/
def SqrtSpec (s : Bool) (a : Nat) (up : Bool) (o : Option Nat) : Prop :=
  if a < 9218868437227405312 ∧ 0 < a ∧ s = false then ∃ r, o = some (W false r) ∧ Dir up (rootN (M a * U)) 2 r
  else o = double.sqrt (W s a)

theorem sqrt_sem (a : Nat) (up : Bool) (ha : a < 9218868437227405312) (ha0 : 0 < a) :
    ∃ r, Dir up (rootN (M a * U)) 2 r ∧ ∀ w, Calls Try.prog 31 #[.float .f64 (W false a), .bool up] w fun e w' => e = .returned (.float .f64 (W false r)) ∧ w' = w := by
  obtain ⟨r, c, h1, h2, h3, h4⟩ := sqrt_faithful a ha ha0
  have hfa : finB (W false a) = true := by rw [finB_W false a (by omega)]; exact decide_eq_true ha
  have hna : negB (W false a) = false := by rw [negB_W false a (by omega)]; rfl
  have hza : zeroB (W false a) = false := by rw [zeroB_W false a (by omega)]; exact decide_eq_false (by omega)
  have hnear : Near (rootN (M a * U)) 2 (min c 9218868437227405312) := near_of_faithful (r := r) (by omega) h1 h2 h3
  have hNpos : 0 < M a * U := Nat.mul_pos (M_pos ha0) U_pos
  have hr0 : 0 < r := by
    refine Nat.pos_of_ne_zero fun h0 => ?_
    subst h0
    have h5 : ¬ 2 * M 1 ≤ rootN (M a * U) := by rw [show 0 + 1 = 1 from rfl] at h2; omega
    rw [le_rootN, M_one] at h5
    omega
  have hc0 : 0 < min c 9218868437227405312 := by rcases h3 with h | ⟨h, _⟩ <;> omega
  obtain ⟨o, g1, g2, g3⟩ := sqrt_err a _ ha ha0 hnear hc0
  obtain ⟨r', k1, k2⟩ := side_ok false _ 2 _ o up (by omega) hnear g2 g3
  rw [Bool.bne_false] at k2
  refine ⟨r', k2, fun w => ?_⟩
  have := sqrt19 _ _ o _ up w hfa hna hza h4 rfl (by omega) g1
  rw [k1] at this
  exact this

theorem sqrt19_spec (s : Bool) (a : Nat) (up : Bool) (ha : a < 9223372036854775808) :
    ∃ o, SqrtSpec s a up o ∧ ∀ w, Calls Try.prog 31 #[.float .f64 (W s a), .bool up] w fun e w' => ∃ v, e = .returned (.float .f64 v) ∧ OkR o v ∧ Grown w w' := by
  by_cases hf : a < 9218868437227405312 ∧ 0 < a ∧ s = false
  · obtain ⟨h1, h2, rfl⟩ := hf
    obtain ⟨r, k1, k2⟩ := sqrt_sem a up h1 h2
    refine ⟨some (W false r), by unfold SqrtSpec; rw [if_pos ⟨h1, h2, rfl⟩]; exact ⟨r, rfl, k1⟩, fun w => ?_⟩
    refine (k2 w).mono ?_
    rintro e w' ⟨rfl, rfl⟩
    exact ⟨_, rfl, rfl, Grown.refl _⟩
  · refine ⟨double.sqrt (W s a), by unfold SqrtSpec; rw [if_neg hf], fun w => ?_⟩
    have hfin : (finB (W s a) && !negB (W s a) && !zeroB (W s a)) = false := by
      rw [finB_W s a ha]
      by_cases h1 : a < 9218868437227405312
      · rw [negB_W s a (by omega), zeroB_W s a (by omega)]
        by_cases h2 : a = 0
        · rw [decide_eq_true h2]; simp
        · have hs : s = true := by
            cases s
            · exact absurd ⟨h1, by omega, rfl⟩ hf
            · rfl
          rw [hs, decide_eq_true h2]
          simp
      · rw [decide_eq_false h1, Bool.false_and, Bool.false_and]
    cases ho : double.sqrt (W s a) with
    | some v =>
      refine (sqrt19_not _ v up w w hfin (sqrt75 _ v w ho)).mono ?_
      rintro e w' ⟨rfl, rfl⟩
      exact ⟨_, rfl, rfl, Grown.refl _⟩
    | none =>
      refine (sqrt19_not _ _ up w _ hfin (sqrt75n _ w ho)).mono ?_
      rintro e w' ⟨rfl, rfl⟩
      exact ⟨_, rfl, nanOf_W _ _ _, (Grown.refl _).drew⟩
end Go.Proofs.Ytcgbdpgfpickaaa.Fl
namespace Go.Proofs.Ytcgbdpgfpickaaa.Fl
open Go.RowKit
open Ieee
set_option linter.unusedVariables false

/-- not above, where both are numbers -/
def LeV (v v' : Nat) : Prop := NanW v ∨ NanW v' ∨ ∃ s a t b, v = W s a ∧ v' = W t b ∧ a ≤ 9218868437227405312 ∧ b ≤ 9218868437227405312 ∧ val s a ≤ val t b
theorem leV_not {v v' : Nat} (h : LeV v v') : (FloatKind.f64.format.order v v' == some .gt) = false := by
  rcases h with ⟨s, r, rfl, h1, h2⟩ | ⟨s, r, rfl, h1, h2⟩ | ⟨s, a, t, b, rfl, rfl, h1, h2, h3⟩
  · rw [f64_format, order_nan_left s r _ h2 h1]; rfl
  · rw [f64_format, order_nan_right s r _ h2 h1]; rfl
  · rw [B_gt s t a b h1 h2]
    exact decide_eq_false (by omega)

theorem val_le_top (s : Bool) (a : Nat) (ha : a ≤ 9218868437227405312) : val s a ≤ val false 9218868437227405312 := by
  have h := M_le ha
  unfold val
  generalize M 9218868437227405312 = k at *
  cases s <;> simp only [Bool.false_eq_true, if_false, if_true] <;> omega
theorem bot_le_val (s : Bool) (a : Nat) (ha : a ≤ 9218868437227405312) : val true 9218868437227405312 ≤ val s a := by
  have h := M_le ha
  unfold val
  generalize M 9218868437227405312 = k at *
  cases s <;> simp only [Bool.false_eq_true, if_false, if_true] <;> omega
theorem val_neg_le (r : Nat) : val true r ≤ 0 := by unfold val; simp
theorem val_pos_le (r : Nat) : 0 ≤ val false r := by unfold val; simp

theorem dir_mono2 {o1 o2 : Bool} {N D r N' D' r' : Nat} (ho : o1 = true → o2 = true) (hD : 0 < D) (hD' : 0 < D') (h : Dir o1 N D r) (h' : Dir o2 N' D' r') (hle : N * D' ≤ N' * D) : r ≤ r' := by
  cases o1 <;> cases o2
  · exact dir_mono hD hD' h h' hle
  · refine Nat.le_of_not_lt fun hlt => ?_
    have h : DirDn N D r := h
    have h' : DirUp N' D' r' := h'
    have h1 := h'.2.1 (by have := h.1; omega)
    have h2 := h.2.1
    have h3 : M r' * D' < M r * D' := Nat.mul_lt_mul_of_pos_right (M_lt hlt) hD'
    have h4 : N' * D < M r * D' * D := Nat.mul_lt_mul_of_pos_right (Nat.lt_of_le_of_lt h1 h3) hD
    have h5 : M r * D * D' ≤ N * D' := Nat.mul_le_mul_right _ h2
    rw [Nat.mul_right_comm] at h4
    omega
  · exact absurd (ho rfl) (by simp)
  · exact dir_mono hD hD' h h' hle
theorem dir_le {out : Bool} {N D r : Nat} (h : Dir out N D r) : r ≤ 9218868437227405312 := by
  unfold Dir at h
  cases out
  · have := h.1; omega
  · exact h.1

theorem add_inf_c (s u : Bool) (a : Nat) (ha : a ≤ 9218868437227405312) : double.add (W s a) (W u 9218868437227405312) = some (W u 9218868437227405312) ∨ double.add (W s a) (W u 9218868437227405312) = none := by
  unfold Format.add
  by_cases h : a < 9218868437227405312
  · rw [read_fin s a h, read_inf]
    left
    cases u <;> rfl
  · have : a = 9218868437227405312 := by omega
    subst this
    rw [read_inf, read_inf]
    cases s <;> cases u <;> first | (left; rfl) | (right; rfl)
theorem add_inf_fin (s u : Bool) (c : Nat) (hc : c < 9218868437227405312) : double.add (W s 9218868437227405312) (W u c) = some (W s 9218868437227405312) := by
  unfold Format.add
  rw [read_fin u c hc, read_inf]
  cases s <;> rfl
theorem okR_cases {o : Option Nat} {x v : Nat} (h : o = some x ∨ o = none) (hv : OkR o v) : v = x ∨ NanW v := by
  rcases h with h | h
  · rw [h] at hv; exact Or.inl hv
  · rw [h] at hv; exact Or.inr hv

/-- SUMS GROW -/
theorem add_grows (s t u : Bool) (a b c : Nat) (up1 up2 : Bool) (hup : up1 = true → up2 = true) (ha : a ≤ 9218868437227405312) (hb : b ≤ 9218868437227405312) (hc : c ≤ 9218868437227405312)
    (hle : val s a ≤ val t b) (o o' : Option Nat) (h : AddSpec s a u c up1 o) (h' : AddSpec t b u c up2 o') : ∀ v v', OkR o v → OkR o' v' → LeV v v' := by
  intro v v' hv hv'
  unfold AddSpec at h h'
  by_cases hcI : c = 9218868437227405312
  · subst hcI
    rw [if_neg (by omega)] at h h'
    have k1 := okR_cases (add_inf_c s u a ha) (h ▸ hv)
    have k2 := okR_cases (add_inf_c t u b hb) (h' ▸ hv')
    rcases k1 with k1 | k1
    · rcases k2 with k2 | k2
      · exact Or.inr (Or.inr ⟨u, _, u, _, k1, k2, by omega, by omega, Int.le_refl _⟩)
      · exact Or.inr (Or.inl k2)
    · exact Or.inl k1
  have hcf : c < 9218868437227405312 := by omega
  by_cases haI : a = 9218868437227405312
  · subst haI
    rw [if_neg (by omega), add_inf_fin s u c hcf] at h
    rw [h] at hv
    have hv : v = W s 9218868437227405312 := hv
    cases s
    · -- then b is that infinity, too
      have hbI : t = false ∧ b = 9218868437227405312 := by
        have hpos := M_pos (r := 9218868437227405312) (by omega)
        refine ⟨?_, ?_⟩
        · cases t
          · rfl
          · exfalso
            have := val_neg_le b
            unfold val at hle this
            simp only [Bool.false_eq_true, if_false, if_true] at hle this
            generalize M 9218868437227405312 = k at *
            omega
        · refine Nat.le_antisymm hb (Nat.le_of_not_lt fun hlt => ?_)
          have h1 := M_lt hlt
          unfold val at hle
          generalize M 9218868437227405312 = k at *
          cases t <;> simp only [Bool.false_eq_true, if_false, if_true] at hle <;> omega
      obtain ⟨rfl, rfl⟩ := hbI
      rw [if_neg (by omega), add_inf_fin false u c hcf] at h'
      rw [h'] at hv'
      exact Or.inr (Or.inr ⟨false, _, false, _, hv, hv', by omega, by omega, Int.le_refl _⟩)
    · by_cases hbI : b = 9218868437227405312
      · subst hbI
        rw [if_neg (by omega), add_inf_fin t u c hcf] at h'
        rw [h'] at hv'
        exact Or.inr (Or.inr ⟨true, _, t, _, hv, hv', by omega, by omega, hle⟩)
      · rw [if_pos ⟨by omega, hcf⟩] at h'
        by_cases hT : val t b + val u c = 0
        · rw [if_pos hT] at h'
          rw [h'] at hv'
          have hv' : v' = _ := hv'
          by_cases htu : t = u
          · rw [if_pos htu] at hv'
            exact Or.inr (Or.inr ⟨true, _, _, _, hv, hv', by omega, hb, bot_le_val _ _ hb⟩)
          · rw [if_neg htu] at hv'
            exact Or.inr (Or.inr ⟨true, _, _, _, hv, hv', by omega, by omega, bot_le_val _ _ (by omega)⟩)
        · rw [if_neg hT] at h'
          obtain ⟨r, h1, h2⟩ := h'
          rw [h1] at hv'
          exact Or.inr (Or.inr ⟨true, _, _, _, hv, hv', by omega, dir_le h2, bot_le_val _ _ (dir_le h2)⟩)
  have haf : a < 9218868437227405312 := by omega
  rw [if_pos ⟨haf, hcf⟩] at h
  -- what the first comes to
  have first : ∃ sg r, v = W sg r ∧ r ≤ 9218868437227405312 ∧ ((val s a + val u c = 0 ∧ val sg r = 0) ∨ (val s a + val u c ≠ 0 ∧ sg = decide (val s a + val u c < 0) ∧ Dir (up1 != sg) (val s a + val u c).natAbs 1 r)) := by
    by_cases hT : val s a + val u c = 0
    · rw [if_pos hT] at h
      rw [h] at hv
      have hv : v = _ := hv
      by_cases hsu : s = u
      · rw [if_pos hsu] at hv
        have h0 : a = 0 := by
          refine Nat.eq_zero_of_not_pos fun hp => ?_
          have := M_pos hp
          subst hsu
          unfold val at hT
          cases s <;> simp only [Bool.false_eq_true, if_false, if_true] at hT <;> omega
        exact ⟨s, a, hv, ha, Or.inl ⟨hT, by rw [h0, val_zero]⟩⟩
      · rw [if_neg hsu] at hv
        exact ⟨_, 0, hv, by omega, Or.inl ⟨hT, val_zero _⟩⟩
    · rw [if_neg hT] at h
      obtain ⟨r, h1, h2⟩ := h
      rw [h1] at hv
      exact ⟨_, r, hv, dir_le h2, Or.inr ⟨hT, rfl, h2⟩⟩
  obtain ⟨sg, r, hv, hr, hk⟩ := first
  by_cases hbI : b = 9218868437227405312
  · subst hbI
    rw [if_neg (by omega), add_inf_fin t u c hcf] at h'
    rw [h'] at hv'
    cases t
    · exact Or.inr (Or.inr ⟨sg, r, false, _, hv, hv', hr, by omega, val_le_top _ _ hr⟩)
    · exfalso
      have h1 := M_lt haf
      unfold val at hle
      generalize M 9218868437227405312 = k at *
      cases s <;> simp only [Bool.false_eq_true, if_false, if_true] at hle <;> omega
  have hbf : b < 9218868437227405312 := by omega
  rw [if_pos ⟨hbf, hcf⟩] at h'
  have second : ∃ sg r, v' = W sg r ∧ r ≤ 9218868437227405312 ∧ ((val t b + val u c = 0 ∧ val sg r = 0) ∨ (val t b + val u c ≠ 0 ∧ sg = decide (val t b + val u c < 0) ∧ Dir (up2 != sg) (val t b + val u c).natAbs 1 r)) := by
    by_cases hT : val t b + val u c = 0
    · rw [if_pos hT] at h'
      rw [h'] at hv'
      have hv' : v' = _ := hv'
      by_cases hsu : t = u
      · rw [if_pos hsu] at hv'
        have h0 : b = 0 := by
          refine Nat.eq_zero_of_not_pos fun hp => ?_
          have := M_pos hp
          subst hsu
          unfold val at hT
          cases t <;> simp only [Bool.false_eq_true, if_false, if_true] at hT <;> omega
        exact ⟨t, b, hv', hb, Or.inl ⟨hT, by rw [h0, val_zero]⟩⟩
      · rw [if_neg hsu] at hv'
        exact ⟨_, 0, hv', by omega, Or.inl ⟨hT, val_zero _⟩⟩
    · rw [if_neg hT] at h'
      obtain ⟨r, h1, h2⟩ := h'
      rw [h1] at hv'
      exact ⟨_, r, hv', dir_le h2, Or.inr ⟨hT, rfl, h2⟩⟩
  obtain ⟨sg', r', hv', hr', hk'⟩ := second
  refine Or.inr (Or.inr ⟨sg, r, sg', r', hv, hv', hr, hr', ?_⟩)
  have hTT : val s a + val u c ≤ val t b + val u c := by omega
  clear h h' hle
  generalize val s a + val u c = T at *
  generalize val t b + val u c = T' at *
  have neg1 : T < 0 → val sg r ≤ 0 := by
    intro hn
    rcases hk with ⟨h1, h2⟩ | ⟨h1, rfl, h3⟩
    · omega
    · rw [decide_eq_true hn]; exact val_neg_le _
  have pos1 : 0 < T' → 0 ≤ val sg' r' := by
    intro hn
    rcases hk' with ⟨h1, h2⟩ | ⟨h1, rfl, h3⟩
    · omega
    · rw [decide_eq_false (by omega)]; exact val_pos_le _
  rcases hk with ⟨h1, h2⟩ | ⟨h1, hs1, h3⟩
  · rcases hk' with ⟨g1, g2⟩ | ⟨g1, hs2, g3⟩
    · omega
    · have := pos1 (by omega); omega
  · rcases hk' with ⟨g1, g2⟩ | ⟨g1, hs2, g3⟩
    · have := neg1 (by omega); omega
    · by_cases hn : T < 0
      · by_cases hn' : T' < 0
        · rw [decide_eq_true hn] at hs1
          rw [decide_eq_true hn'] at hs2
          subst hs1 hs2
          have hrr : r' ≤ r := dir_mono2 (by cases up1 <;> cases up2 <;> simp at hup ⊢) (by omega) (by omega) g3 h3 (by omega)
          have := M_le hrr
          unfold val
          simp only [if_true]
          omega
        · have := neg1 hn
          have := pos1 (by omega)
          omega
      · rw [decide_eq_false hn] at hs1
        rw [decide_eq_false (by omega)] at hs2
        subst hs1 hs2
        have hrr : r ≤ r' := dir_mono2 (by cases up1 <;> cases up2 <;> simp at hup ⊢) (by omega) (by omega) h3 g3 (by omega)
        have := M_le hrr
        unfold val
        simp only [Bool.false_eq_true, if_false]
        omega
end Go.Proofs.Ytcgbdpgfpickaaa.Fl
