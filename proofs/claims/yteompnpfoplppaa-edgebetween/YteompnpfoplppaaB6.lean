import Derived.Test.YteompnpfoplppaaB5
import Derived.Test.YteompnpfoplppaaE1
namespace Go.Proofs.Yteompnpfoplppaa
open Go.RowKit
open Ieee
set_option linter.unusedVariables false

theorem fixed {P : Program} {f : FuncId} {args : Array Value} {w : World} {x : Nat} (h : Calls P f args w fun e w' => ∃ v, e = .returned (.float .f64 v) ∧ OkR (some x) v ∧ Gr w w') : Calls P f args w fun e w' => e = .returned (.float .f64 x) ∧ Gr w w' :=
  h.mono fun _ _ ⟨v, a, b, c⟩ => ⟨by have b : v = x := b; rw [a, b], c⟩
theorem same_okR (o : Option Nat) : ∀ v v', OkR o v → OkR o v' → sameB v v' = true := same_same (o := o) (o' := o) rfl
theorem bne_f (u : Bool) : (false != u) = u := by cases u <;> rfl
theorem val_turn (t : Bool) (b : Nat) : val (!t) b = - val t b := by unfold val; cases t <;> simp
theorem abs_sign (T : Int) : T = if decide (T < 0) then -(T.natAbs : Int) else (T.natAbs : Int) := by
  by_cases h : T < 0
  · rw [decide_eq_true h]; simp only [if_true]; omega
  · rw [decide_eq_false h]; simp only [Bool.false_eq_true, if_false]; omega

/-- sums and differences alike: the second number's sign as it is added -/
theorem btw_sum (i op : Int) (x y : Nat) (s t : Bool) (a b : Nat) (w : World) (ha : a < 9223372036854775808) (hb : b < 9223372036854775808)
    (HI : ∀ w, Calls Try.prog 22 #[.int .i64 i, .int .i64 5] w fun e w' => e = .returned (.int .i64 op) ∧ w' = w)
    (HD : ∀ up o, AddSpec s a t b up o → ∀ w, Calls Try.prog 23 #[.int .i64 op, .float .f64 x, .float .f64 y, .bool up] w fun e w' => ∃ v, e = .returned (.float .f64 v) ∧ OkR o v ∧ Gr w w')
    (HP : ∀ w, Calls Try.prog 24 #[.int .i64 op, .float .f64 x, .float .f64 y] w fun e w' => e = .returned (.bool (decide (a < 9218868437227405312 ∧ b < 9218868437227405312))) ∧ Gr w w')
    (HA : a < 9218868437227405312 ∧ b < 9218868437227405312 → ∀ u c, c < 9218868437227405312 → ∀ w, Calls Try.prog 26 #[.int .i64 op, .float .f64 x, .float .f64 y, .float .f64 (W u c)] w fun r w' => r = .returned (.int .i64 (sg (val u c - (val s a + val t b)))) ∧ Gr w w') :
    Calls Try.prog 5 #[.int .i64 i, .float .f64 x, .float .f64 y] w fun e w' => e = .returned (.bool true) ∧ Gr w w' := by
  obtain ⟨o1, s1, _⟩ := radd_spec s t a b false ha hb
  obtain ⟨o2, s2, _⟩ := radd_spec s t a b true ha hb
  have d1 := HD false o1 s1
  have d2 := HD true o2 s2
  by_cases hf : a < 9218868437227405312 ∧ b < 9218868437227405312
  · have HP' : ∀ w, Calls Try.prog 24 #[.int .i64 op, .float .f64 x, .float .f64 y] w fun e w' => e = .returned (.bool true) ∧ Gr w w' := by
      intro w
      have := HP w
      rw [decide_eq_true hf] at this
      exact this
    unfold AddSpec at s1 s2
    rw [if_pos hf] at s1 s2
    by_cases hT : val s a + val t b = 0
    · rw [if_pos hT] at s1 s2
      subst s1 s2
      have hz : ∀ u, val u 0 - (val s a + val t b) = 0 := by
        intro u; rw [val_zero, hT]; rfl
      by_cases hst : s = t
      · have ha0 : a = 0 := by
          subst hst
          refine Nat.eq_zero_of_not_pos fun hp => ?_
          have := M_pos hp
          unfold val at hT
          cases s <;> simp at hT <;> omega
        rw [if_pos hst] at d1 d2
        rw [ha0] at d1 d2
        refine btw_eq i op x y _ _ w HI (fun w => fixed (d1 w)) (fun w => fixed (d2 w)) HP' (ord_eq s s 0 0 (by omega) (by omega) rfl) (fun w => rkfin25 s 0 w (by omega)) (fun w => ?_)
        have := HA hf s 0 (by omega) w
        rw [hz] at this
        exact this
      · rw [if_neg hst] at d1 d2
        refine btw_eq i op x y _ _ w HI (fun w => fixed (d1 w)) (fun w => fixed (d2 w)) HP' (ord_eq (!false) (!true) 0 0 (by omega) (by omega) rfl) (fun w => rkfin25 (!false) 0 w (by omega)) (fun w => ?_)
        have := HA hf (!false) 0 (by omega) w
        rw [hz] at this
        exact this
    · rw [if_neg hT] at s1 s2
      obtain ⟨r1, rfl, k1⟩ := s1
      obtain ⟨r2, rfl, k2⟩ := s2
      refine btw_ord i op x y w (decide (val s a + val t b < 0)) (val s a + val t b).natAbs 1 r1 r2 (by omega) k1 k2 HI (fun w => fixed (d1 w)) (fun w => fixed (d2 w)) HP' (fun r hr => ⟨_, agk_of _ _ 1 r _ (abs_sign _), fun w => ?_⟩)
      have := HA hf (decide (val s a + val t b < 0)) r hr w
      simpa using this
  · have HP' : ∀ w, Calls Try.prog 24 #[.int .i64 op, .float .f64 x, .float .f64 y] w fun e w' => e = .returned (.bool false) ∧ Gr w w' := by
      intro w
      have := HP w
      rw [decide_eq_false hf] at this
      exact this
    have e : o2 = o1 := by
      unfold AddSpec at s1 s2
      rw [if_neg hf] at s1 s2
      rw [s1, s2]
    subst e
    exact btw_not i op x y (OkR o2) w HI d1 d2 HP' (same_okR o2)

theorem plain_fin (op : Int) (s t : Bool) (a b : Nat) (ha : a < 9223372036854775808) (hb : b < 9223372036854775808)
    (A : ∀ x y w, Hid (∀ w, Calls Try.prog 25 #[.float .f64 x] w fun e w' => e = .returned (.bool false) ∧ w' = w.drew) → Calls Try.prog 24 #[.int .i64 op, .float .f64 x, .float .f64 y] w fun e w' => e = .returned (.bool false) ∧ Gr w w')
    (B : ∀ x y w, Hid (∀ w, Calls Try.prog 25 #[.float .f64 x] w fun e w' => e = .returned (.bool true) ∧ w' = w) → Hid (∀ w, Calls Try.prog 25 #[.float .f64 y] w fun e w' => e = .returned (.bool false) ∧ w' = w.drew) → Calls Try.prog 24 #[.int .i64 op, .float .f64 x, .float .f64 y] w fun e w' => e = .returned (.bool false) ∧ Gr w w')
    (C : ∀ x y w, Hid (∀ w, Calls Try.prog 25 #[.float .f64 x] w fun e w' => e = .returned (.bool true) ∧ w' = w) → Hid (∀ w, Calls Try.prog 25 #[.float .f64 y] w fun e w' => e = .returned (.bool true) ∧ w' = w) → Calls Try.prog 24 #[.int .i64 op, .float .f64 x, .float .f64 y] w fun e w' => e = .returned (.bool true) ∧ Gr w w') :
    ∀ w, Calls Try.prog 24 #[.int .i64 op, .float .f64 (W s a), .float .f64 (W t b)] w fun e w' => e = .returned (.bool (decide (a < 9218868437227405312 ∧ b < 9218868437227405312))) ∧ Gr w w' := by
  intro w
  by_cases hfa : a < 9218868437227405312
  · by_cases hfb : b < 9218868437227405312
    · rw [decide_eq_true ⟨hfa, hfb⟩]
      exact C _ _ w (fun w => rkfin25 s a w hfa) (fun w => rkfin25 t b w hfb)
    · rw [decide_eq_false (fun h => hfb h.2)]
      exact B _ _ w (fun w => rkfin25 s a w hfa) (fun w => rkfin25_not t b w hb (by omega))
  · rw [decide_eq_false (fun h => hfa h.1)]
    exact A _ _ w (fun w => rkfin25_not s a w ha (by omega))

theorem btw_0 (i : Int) (s t : Bool) (a b : Nat) (w : World) (ha : a < 9223372036854775808) (hb : b < 9223372036854775808) (HI : ∀ w, Calls Try.prog 22 #[.int .i64 i, .int .i64 5] w fun e w' => e = .returned (.int .i64 0) ∧ w' = w) :
    Calls Try.prog 5 #[.int .i64 i, .float .f64 (W s a), .float .f64 (W t b)] w fun e w' => e = .returned (.bool true) ∧ Gr w w' := by
  refine btw_sum i 0 _ _ s t a b w ha hb HI (fun up o ho w => ?_) (plain_fin 0 s t a b ha hb (fun x y w => plain_0a x y w) (fun x y w => plain_0b x y w) (fun x y w => plain_0c x y w)) (fun hf u c hc w => against0 s t u a b c hf.1 hf.2 hc w)
  obtain ⟨o', h1, h2⟩ := add11_spec s t a b up ha hb
  obtain rfl := addSpec_unique ho h1
  exact did_0 _ _ up _ w (fun w => grOf (h2 w))
theorem btw_1 (i : Int) (s t : Bool) (a b : Nat) (w : World) (ha : a < 9223372036854775808) (hb : b < 9223372036854775808) (HI : ∀ w, Calls Try.prog 22 #[.int .i64 i, .int .i64 5] w fun e w' => e = .returned (.int .i64 1) ∧ w' = w) :
    Calls Try.prog 5 #[.int .i64 i, .float .f64 (W s a), .float .f64 (W t b)] w fun e w' => e = .returned (.bool true) ∧ Gr w w' := by
  refine btw_sum i 1 _ _ s (!t) a b w ha hb HI (fun up o ho w => ?_) (plain_fin 1 s t a b ha hb (fun x y w => plain_1a x y w) (fun x y w => plain_1b x y w) (fun x y w => plain_1c x y w)) (fun hf u c hc w => ?_)
  · obtain ⟨o', h1, h2⟩ := add11_spec s (!t) a b up ha hb
    obtain rfl := addSpec_unique ho h1
    exact did_1 _ _ up _ w (fun w => grOf (sub13 (W s a) (W t b) _ up w _ (neg_W t b hb) h2))
  · have := against1 s t u a b c hf.1 hf.2 hc w
    rw [show val u c - (val s a - val t b) = val u c - (val s a + val (!t) b) by rw [val_turn]; omega] at this
    exact this
theorem btw_2 (i : Int) (s t : Bool) (a b : Nat) (w : World) (ha : a < 9223372036854775808) (hb : b < 9223372036854775808) (HI : ∀ w, Calls Try.prog 22 #[.int .i64 i, .int .i64 5] w fun e w' => e = .returned (.int .i64 2) ∧ w' = w) :
    Calls Try.prog 5 #[.int .i64 i, .float .f64 (W s a), .float .f64 (W t b)] w fun e w' => e = .returned (.bool true) ∧ Gr w w' := by
  obtain ⟨o1, s1, c1⟩ := mul15_spec s t a b false ha hb
  obtain ⟨o2, s2, c2⟩ := mul15_spec s t a b true ha hb
  have HP := plain_fin 2 s t a b ha hb (fun x y w => plain_2a x y w) (fun x y w => plain_2b x y w) (fun x y w => plain_2c x y w)
  have d1 := fun w => did_2 (W s a) (W t b) false (OkR o1) w (fun w => grOf (c1 w))
  have d2 := fun w => did_2 (W s a) (W t b) true (OkR o2) w (fun w => grOf (c2 w))
  by_cases hf : a < 9218868437227405312 ∧ b < 9218868437227405312
  · rw [decide_eq_true hf] at HP
    unfold MulSpec at s1 s2
    rw [if_pos hf] at s1 s2
    obtain ⟨r1, rfl, k1⟩ := s1
    obtain ⟨r2, rfl, k2⟩ := s2
    refine btw_ord i 2 _ _ w (s ^^ t) (M a * M b) U r1 r2 U_pos k1 k2 HI (fun w => fixed (d1 w)) (fun w => fixed (d2 w)) HP (fun r hr => ⟨_, agk_of (s ^^ t) (M a * M b) U r (val s a * val t b) (val_mul s t a b), fun w => against2 s t _ a b r hf.1 hf.2 hr w⟩)
  · rw [decide_eq_false hf] at HP
    have e : o2 = o1 := by
      unfold MulSpec at s1 s2
      rw [if_neg hf] at s1 s2
      rw [s1, s2]
    subst e
    exact btw_not i 2 _ _ (OkR o2) w HI d1 d2 HP (same_okR o2)
theorem btw_3 (i : Int) (s t : Bool) (a b : Nat) (w : World) (ha : a < 9223372036854775808) (hb : b < 9223372036854775808) (HI : ∀ w, Calls Try.prog 22 #[.int .i64 i, .int .i64 5] w fun e w' => e = .returned (.int .i64 3) ∧ w' = w) :
    Calls Try.prog 5 #[.int .i64 i, .float .f64 (W s a), .float .f64 (W t b)] w fun e w' => e = .returned (.bool true) ∧ Gr w w' := by
  obtain ⟨o1, s1, c1⟩ := div17_spec s t a b false ha hb
  obtain ⟨o2, s2, c2⟩ := div17_spec s t a b true ha hb
  have d1 := fun w => did_3 (W s a) (W t b) false (OkR o1) w (fun w => grOf (c1 w))
  have d2 := fun w => did_3 (W s a) (W t b) true (OkR o2) w (fun w => grOf (c2 w))
  by_cases hf : a < 9218868437227405312 ∧ b < 9218868437227405312 ∧ 0 < b
  · have hzb : zeroB (W t b) = false := by rw [zeroB_W t b (by omega)]; exact decide_eq_false (by omega)
    have HP : ∀ w, Calls Try.prog 24 #[.int .i64 3, .float .f64 (W s a), .float .f64 (W t b)] w fun e w' => e = .returned (.bool true) ∧ Gr w w' := fun w => plain_3c _ _ w false hzb (fun w => rkfin25 s a w hf.1) (fun w => rkfin25 t b w hf.2.1)
    unfold DivSpec at s1 s2
    rw [if_pos hf] at s1 s2
    obtain ⟨r1, rfl, k1⟩ := s1
    obtain ⟨r2, rfl, k2⟩ := s2
    have hneg : negB (W t b) = t := by
      rw [negB_W t b (by omega), decide_eq_true (by omega)]; simp
    refine btw_ord i 3 _ _ w (s ^^ t) (M a * U) (M b) r1 r2 (M_pos hf.2.2) k1 k2 HI (fun w => fixed (d1 w)) (fun w => fixed (d2 w)) HP (fun r hr => ⟨_, agk_of (s ^^ t) (M a * U) (M b) r _ rfl, fun w => ?_⟩)
    cases t
    · have := against3p s false (s ^^ false) a b r hf.1 hf.2.1 hr hneg w
      rw [val_M, val_U] at this
      simp only [Bool.xor_false, Bool.false_eq_true, if_false] at this ⊢
      exact this
    · have := against3n s true (s ^^ true) a b r hf.1 hf.2.1 hr hneg w
      rw [val_M, val_U] at this
      simp only [if_true] at this
      have e : (if s = true then -((M a * U : Nat) : Int) else ((M a * U : Nat) : Int)) - -(val (s ^^ true) r * (M b : Int)) = val (s ^^ true) r * (M b : Int) - (if (s ^^ true) = true then -((M a * U : Nat) : Int) else ((M a * U : Nat) : Int)) := by
        generalize ((M a * U : Nat) : Int) = Z
        generalize val (s ^^ true) r * (M b : Int) = Y
        cases s <;> simp <;> omega
      rw [e] at this
      exact this
  · have HP : ∀ w, Calls Try.prog 24 #[.int .i64 3, .float .f64 (W s a), .float .f64 (W t b)] w fun e w' => e = .returned (.bool false) ∧ Gr w w' := by
      intro w
      by_cases hfa : a < 9218868437227405312
      · by_cases hfb : b < 9218868437227405312
        · have hzb : zeroB (W t b) = true := by rw [zeroB_W t b (by omega)]; exact decide_eq_true (by omega)
          exact plain_3c _ _ w true hzb (fun w => rkfin25 s a w hfa) (fun w => rkfin25 t b w hfb)
        · exact plain_3b _ _ w (fun w => rkfin25 s a w hfa) (fun w => rkfin25_not t b w hb (by omega))
      · exact plain_3a _ _ w (fun w => rkfin25_not s a w ha (by omega))
    have e : o2 = o1 := by
      unfold DivSpec at s1 s2
      rw [if_neg hf] at s1 s2
      rw [s1, s2]
    subst e
    exact btw_not i 3 _ _ (OkR o2) w HI d1 d2 HP (same_okR o2)
theorem sqrt_nought (s : Bool) : double.sqrt (W s 0) = some (W s 0) := by cases s <;> decide +kernel
theorem btw_4 (i : Int) (s t : Bool) (a b : Nat) (w : World) (ha : a < 9223372036854775808) (hb : b < 9223372036854775808) (HI : ∀ w, Calls Try.prog 22 #[.int .i64 i, .int .i64 5] w fun e w' => e = .returned (.int .i64 4) ∧ w' = w) :
    Calls Try.prog 5 #[.int .i64 i, .float .f64 (W s a), .float .f64 (W t b)] w fun e w' => e = .returned (.bool true) ∧ Gr w w' := by
  obtain ⟨o1, s1, c1⟩ := sqrt19_spec s a false ha
  obtain ⟨o2, s2, c2⟩ := sqrt19_spec s a true ha
  have d1 := fun w => did_4 (W s a) (W t b) false (OkR o1) w (fun w => grOf (c1 w))
  have d2 := fun w => did_4 (W s a) (W t b) true (OkR o2) w (fun w => grOf (c2 w))
  by_cases hfa : a < 9218868437227405312
  · have HP0 := fun w => plain_4c (W s a) (W t b) w _ _ rfl rfl (fun w => rkfin25 s a w hfa)
    rw [posB_W s a (by omega), zeroB_W s a (by omega)] at HP0
    by_cases h0 : a = 0
    · rw [decide_eq_true h0, Bool.or_true] at HP0
      unfold SqrtSpec at s1 s2
      rw [if_neg (by omega), h0, sqrt_nought] at s1 s2
      subst s1 s2
      subst h0
      refine btw_eq i 4 _ _ _ _ w HI (fun w => fixed (d1 w)) (fun w => fixed (d2 w)) HP0 (ord_eq s s 0 0 (by omega) (by omega) rfl) (fun w => rkfin25 s 0 w (by omega)) (fun w => ?_)
      have hn : negB (W s 0) = false := by rw [negB_W s 0 (by omega)]; simp
      have := against4 s t s 0 b 0 (by omega) hb (by omega) hn w
      rw [val_zero, show (0 : Int) * 0 - 0 * (U : Int) = 0 by simp] at this
      exact this
    · cases s
      · have e : (!false && decide (a ≠ 0) || decide (a = 0)) = true := by simp
        rw [e] at HP0
        have hf : a < 9218868437227405312 ∧ 0 < a ∧ false = false := ⟨hfa, by omega, rfl⟩
        unfold SqrtSpec at s1 s2
        rw [if_pos hf] at s1 s2
        obtain ⟨r1, rfl, k1⟩ := s1
        obtain ⟨r2, rfl, k2⟩ := s2
        refine btw_ord i 4 _ _ w false (rootN (M a * U)) 2 r1 r2 (by omega) k1 k2 HI (fun w => fixed (d1 w)) (fun w => fixed (d2 w)) HP0 (fun r hr => ⟨sg (((M r * M r : Nat) : Int) - ((M a * U : Nat) : Int)), ?_, fun w => ?_⟩)
        · have e1 := root_lt_iff (M r) (M a * U)
          have e2 := lt_root_iff (M r) (M a * U)
          unfold AgK
          simp only [Bool.false_eq_true, if_false]
          rw [e1, e2]
          generalize M r * M r = X
          generalize M a * U = Y
          rcases Nat.lt_trichotomy X Y with h | h | h
          · rw [sg_neg (by omega)]; omega
          · rw [show (X : Int) - (Y : Int) = 0 by omega, sg_zero]; omega
          · rw [sg_pos (by omega)]; omega
        · have hn : negB (W false r) = false := by rw [negB_W false r (by omega)]; rfl
          have := against4 false t false a b r hfa hb hr hn w
          rw [val_mul, val_U] at this
          simp only [Bool.xor_self, Bool.false_eq_true, if_false] at this
          exact this
      · have e : (!true && decide (a ≠ 0) || decide (a = 0)) = false := by simp [h0]
        rw [e] at HP0
        have e' : o2 = o1 := by
          unfold SqrtSpec at s1 s2
          rw [if_neg (by simp)] at s1 s2
          rw [s1, s2]
        subst e'
        exact btw_not i 4 _ _ (OkR o2) w HI d1 d2 HP0 (same_okR o2)
  · have HP : ∀ w, Calls Try.prog 24 #[.int .i64 4, .float .f64 (W s a), .float .f64 (W t b)] w fun e w' => e = .returned (.bool false) ∧ Gr w w' := fun w => plain_4a _ _ w (fun w => rkfin25_not s a w ha (by omega))
    have e' : o2 = o1 := by
      unfold SqrtSpec at s1 s2
      rw [if_neg (by omega)] at s1 s2
      rw [s1, s2]
    subst e'
    exact btw_not i 4 _ _ (OkR o2) w HI d1 d2 HP (same_okR o2)

theorem between (i : Int) (s t : Bool) (a b : Nat) (w : World) (ha : a < 9223372036854775808) (hb : b < 9223372036854775808) (h1 : -9223372036854775808 ≤ i) (h2 : i ≤ 9223372036854775807) :
    Calls Try.prog 5 #[.int .i64 i, .float .f64 (W s a), .float .f64 (W t b)] w fun e w' => e = .returned (.bool true) ∧ Gr w w' := by
  have HI := fun w => pick22 i w h1 h2
  rcases (show i % 5 = 0 ∨ i % 5 = 1 ∨ i % 5 = 2 ∨ i % 5 = 3 ∨ i % 5 = 4 by omega) with h | h | h | h | h
  · rw [h] at HI; exact btw_0 i s t a b w ha hb HI
  · rw [h] at HI; exact btw_1 i s t a b w ha hb HI
  · rw [h] at HI; exact btw_2 i s t a b w ha hb HI
  · rw [h] at HI; exact btw_3 i s t a b w ha hb HI
  · rw [h] at HI; exact btw_4 i s t a b w ha hb HI
end Go.Proofs.Yteompnpfoplppaa
