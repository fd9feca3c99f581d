import Derived.Test.YteompnpfoplppaaB4
namespace Go.Proofs.Yteompnpfoplppaa
open Go.RowKit
open Ieee
set_option linter.unusedVariables false

theorem dn_up {N D dn up : Nat} (hD : 0 < D) (h : DirDn N D dn) (h' : DirUp N D up) : (dn = up ∧ N = M dn * D) ∨ (up = dn + 1 ∧ M dn * D < N ∧ (up < 9218868437227405312 → N < M up * D)) := by
  obtain ⟨h1, h2, h3⟩ := h
  obtain ⟨k1, k2, k3⟩ := h'
  have mono : ∀ {a b : Nat}, a < b → M a * D < M b * D := fun h => Nat.mul_lt_mul_of_pos_right (M_lt h) hD
  have mle : ∀ {a b : Nat}, a ≤ b → M a * D ≤ M b * D := fun h => Nat.mul_le_mul_right _ (M_le h)
  by_cases he : N = M dn * D
  · left
    refine ⟨Nat.le_antisymm (Nat.le_of_not_lt fun hlt => ?_) (Nat.le_of_not_lt fun hlt => ?_), he⟩
    · have := k2 (by omega)
      have := mono hlt
      omega
    · have := k3 (by omega)
      have := mle (show dn ≤ up - 1 by omega)
      omega
  · right
    have hup : up = dn + 1 := by
      refine Nat.le_antisymm (Nat.le_of_not_lt fun hlt => ?_) (Nat.le_of_not_lt fun hlt => ?_)
      · have := k3 (by omega)
        have := h3 (by omega)
        have := mle (show dn + 1 ≤ up - 1 by omega)
        omega
      · have := k2 (by omega)
        have := mle (show up ≤ dn by omega)
        omega
    refine ⟨hup, by omega, fun hu => ?_⟩
    rw [hup] at hu ⊢
    exact h3 hu
/-- how a float of that sign stands to the exact answer -/
def AgK (u : Bool) (N D r : Nat) (k : Int) : Prop := (k < 0 ↔ if u then N < M r * D else M r * D < N) ∧ (0 < k ↔ if u then M r * D < N else N < M r * D)
theorem agk_of (u : Bool) (N D r : Nat) (T : Int) (hT : T = if u then -(N : Int) else (N : Int)) : AgK u N D r (sg (val u r * (D : Int) - T)) := by
  have hv : val u r * (D : Int) = if u then -((M r * D : Nat) : Int) else ((M r * D : Nat) : Int) := by
    unfold val; cases u <;> simp [Int.neg_mul]
  rw [hv, hT]
  unfold AgK
  generalize M r * D = X
  cases u
  · simp only [Bool.false_eq_true, if_false]
    rcases Nat.lt_trichotomy X N with h | h | h
    · rw [sg_neg (by omega)]; omega
    · rw [show (X : Int) - (N : Int) = 0 by omega, sg_zero]; omega
    · rw [sg_pos (by omega)]; omega
  · simp only [if_true]
    rcases Nat.lt_trichotomy X N with h | h | h
    · rw [sg_pos (by omega)]; omega
    · rw [show -(X : Int) - -(N : Int) = 0 by omega, sg_zero]; omega
    · rw [sg_neg (by omega)]; omega
theorem ord_eq (s t : Bool) (a b : Nat) (ha : a ≤ 9218868437227405312) (hb : b ≤ 9218868437227405312) (h : val s a = val t b) : (FloatKind.f64.format.order (W s a) (W t b) == some .eq) = true := by
  rw [f64_format, order_W s t a b ha hb, compare_eq h]; rfl
theorem ord_lt (s t : Bool) (a b : Nat) (ha : a ≤ 9218868437227405312) (hb : b ≤ 9218868437227405312) (h : val s a < val t b) : (FloatKind.f64.format.order (W s a) (W t b) == some .eq) = false ∧ (FloatKind.f64.format.order (W s a) (W t b) == some .lt) = true := by
  rw [f64_format, order_W s t a b ha hb, compare_lt h]; exact ⟨rfl, rfl⟩
theorem ord_self (s : Bool) (a : Nat) (ha : a ≤ 9218868437227405312) : (FloatKind.f64.format.order (W s a) (W s a) != some .eq) = false := by
  rw [f64_format, order_W s s a a ha ha, compare_eq rfl]; rfl
theorem fin_any (s : Bool) (r : Nat) (h : r ≤ 9218868437227405312) : ∀ w, Calls Try.prog 25 #[.float .f64 (W s r)] w fun e w' => e = .returned (.bool (decide (r < 9218868437227405312))) ∧ Gr w w' := by
  intro w
  by_cases hr : r < 9218868437227405312
  · rw [decide_eq_true hr]
    exact (rkfin25 s r w hr).mono fun _ _ ⟨a, b⟩ => ⟨a, Gr.of_eq b⟩
  · rw [decide_eq_false hr]
    exact (rkfin25_not s r w (by omega) (by omega)).mono fun _ _ ⟨a, b⟩ => ⟨a, b ▸ (Gr.refl _).drew⟩

theorem btw_ord (i op : Int) (a b : Nat) (w : World) (u : Bool) (N D rl rh : Nat) (hD : 0 < D) (hl : Dir (false != u) N D rl) (hh : Dir (true != u) N D rh)
    (HI : ∀ w, Calls Try.prog 22 #[.int .i64 i, .int .i64 5] w fun e w' => e = .returned (.int .i64 op) ∧ w' = w)
    (HL : ∀ w, Calls Try.prog 23 #[.int .i64 op, .float .f64 a, .float .f64 b, .bool false] w fun e w' => e = .returned (.float .f64 (W u rl)) ∧ Gr w w')
    (HH : ∀ w, Calls Try.prog 23 #[.int .i64 op, .float .f64 a, .float .f64 b, .bool true] w fun e w' => e = .returned (.float .f64 (W u rh)) ∧ Gr w w')
    (HP : ∀ w, Calls Try.prog 24 #[.int .i64 op, .float .f64 a, .float .f64 b] w fun e w' => e = .returned (.bool true) ∧ Gr w w')
    (HA : ∀ r, r < 9218868437227405312 → ∃ k, AgK u N D r k ∧ ∀ w, Calls Try.prog 26 #[.int .i64 op, .float .f64 a, .float .f64 b, .float .f64 (W u r)] w fun e w' => e = .returned (.int .i64 k) ∧ Gr w w') :
    Calls Try.prog 5 #[.int .i64 i, .float .f64 a, .float .f64 b] w fun e w' => e = .returned (.bool true) ∧ Gr w w' := by
  obtain ⟨dn, up, hdn, hup, hlh⟩ : ∃ dn up, DirDn N D dn ∧ DirUp N D up ∧ (if u then rl = up ∧ rh = dn else rl = dn ∧ rh = up) := by
    cases u
    · exact ⟨rl, rh, hl, hh, rfl, rfl⟩
    · exact ⟨rh, rl, hh, hl, rfl, rfl⟩
  have hdl := hdn.1
  have hul := hup.1
  have getk : ∀ r, r ≤ 9218868437227405312 → ∀ sgn : Bool, (r < 9218868437227405312 → if sgn then (if u then M r * D < N else N < M r * D) else (if u then N < M r * D else M r * D < N)) → ∃ k : Int, (if sgn then 0 < k else k < 0) ∧ (decide (r < 9218868437227405312) = true → Hid (∀ w, Calls Try.prog 26 #[.int .i64 op, .float .f64 a, .float .f64 b, .float .f64 (W u r)] w fun e w' => e = .returned (.int .i64 k) ∧ Gr w w')) := by
    intro r hr sgn h
    by_cases hf : r < 9218868437227405312
    · obtain ⟨k, hk, hc⟩ := HA r hf
      refine ⟨k, ?_, fun _ => hc⟩
      cases sgn
      · simp only [Bool.false_eq_true, if_false] at h ⊢; exact hk.1.2 (h hf)
      · simp only [if_true] at h ⊢; exact hk.2.2 (h hf)
    · refine ⟨if sgn then 1 else -1, ?_, fun hh => absurd (of_decide_eq_true hh) hf⟩
      cases sgn <;> decide
  rcases dn_up hD hdn hup with ⟨e, hN⟩ | ⟨e, hN1, hN2⟩
  · subst e
    have e1 : rl = dn := by cases u <;> simp at hlh <;> omega
    have e2 : rh = dn := by cases u <;> simp at hlh <;> omega
    rw [e1] at HL
    rw [e2] at HH
    obtain ⟨k, hk, hc⟩ := HA dn hdl
    have hk0 : k = 0 := by
      unfold AgK at hk
      rw [← hN] at hk
      cases u <;> simp at hk <;> omega
    subst hk0
    exact btw_eq i op a b _ _ w HI HL HH HP (ord_eq u u dn dn (by omega) (by omega) rfl) (fun w => rkfin25 u dn w hdl) hc
  · cases u
    · simp only [Bool.false_eq_true, if_false] at hlh
      obtain ⟨rfl, rfl⟩ := hlh
      subst e
      obtain ⟨kl, hkl, HAl⟩ := getk rl (by omega) false (fun _ => by simpa using hN1)
      obtain ⟨kh, hkh, HAh⟩ := getk (rl + 1) hul true (fun h => by simpa using hN2 h)
      have hv : val false rl < val false (rl + 1) := by
        have := M_lt (show rl < rl + 1 by omega)
        unfold val; simp; omega
      have ho := ord_lt false false rl (rl + 1) (by omega) hul hv
      have n1 : nextW false rl true = W false (rl + 1) := by
        unfold nextW
        rw [if_neg (by omega)]
        by_cases h0 : rl = 0
        · rw [if_pos h0, h0]; rfl
        · rw [if_neg h0, if_pos (by decide), if_neg (by omega)]
      have n2 : nextW false (rl + 1) false = W false rl := by
        unfold nextW
        rw [if_neg (by omega), if_neg (by omega), if_neg (by decide)]
        rfl
      refine btw_lt i op kl kh a b _ _ w (decide (rl < 9218868437227405312)) (decide (rl + 1 < 9218868437227405312)) (by rw [decide_eq_true hdl]; rfl) HI HL HH HP ho.1 ho.2 (ord_self _ _ (by omega)) (ord_self _ _ hul) (fun w => ?_) (fun w => ?_) (fin_any false rl (by omega)) (fin_any false (rl + 1) hul) (by simpa using hkl) (by simpa using hkh) HAl HAh
      · have := next5 false rl true w (by omega)
        rw [n1] at this; exact this
      · have := next5 false (rl + 1) false w (by omega)
        rw [n2] at this; exact this
    · simp only [if_true] at hlh
      obtain ⟨rfl, rfl⟩ := hlh
      subst e
      obtain ⟨kl, hkl, HAl⟩ := getk (rh + 1) hul false (fun h => by simpa using hN2 h)
      obtain ⟨kh, hkh, HAh⟩ := getk rh (by omega) true (fun _ => by simpa using hN1)
      have hv : val true (rh + 1) < val true rh := by
        have := M_lt (show rh < rh + 1 by omega)
        unfold val; simp; omega
      have ho := ord_lt true true (rh + 1) rh hul (by omega) hv
      have n1 : nextW true (rh + 1) true = W true rh := by
        unfold nextW
        rw [if_neg (by omega), if_neg (by omega), if_neg (by decide)]
        rfl
      have n2 : nextW true rh false = W true (rh + 1) := by
        unfold nextW
        rw [if_neg (by omega)]
        by_cases h0 : rh = 0
        · rw [if_pos h0, h0]; rfl
        · rw [if_neg h0, if_pos (by decide), if_neg (by omega)]
      refine btw_lt i op kl kh a b _ _ w (decide (rh + 1 < 9218868437227405312)) (decide (rh < 9218868437227405312)) (by rw [decide_eq_true hdl]; simp) HI HL HH HP ho.1 ho.2 (ord_self _ _ hul) (ord_self _ _ (by omega)) (fun w => ?_) (fun w => ?_) (fin_any true (rh + 1) hul) (fin_any true rh (by omega)) (by simpa using hkl) (by simpa using hkh) HAl HAh
      · have := next5 true (rh + 1) true w (by omega)
        rw [n1] at this; exact this
      · have := next5 true rh false w (by omega)
        rw [n2] at this; exact this
end Go.Proofs.Yteompnpfoplppaa
