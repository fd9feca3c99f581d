import Derived.Test.YtcgbdpgfpickaaaK32
namespace Go.Proofs.Ytcgbdpgfpickaaa.Fl
open Go.RowKit
open Ieee
set_option linter.unusedVariables false

/-! THE DOCUMENT'S Ring -/
theorem ordT (o : Int) (h : 0 ≤ o ∧ o ≤ 14) (w : World) : Calls Try.prog 23 #[.int .i64 o] w fun e w' => e = .returned (.bool true) ∧ w' = w := by
  have := rorder o w
  rw [show (decide (0 ≤ o) && decide (o ≤ 14)) = true by rw [decide_eq_true h.1, decide_eq_true h.2]; rfl] at this
  exact this
theorem rringA (o : Int) (x y : Nat) (w : World) (h : ¬ (0 ≤ o ∧ o ≤ 14)) :
    Calls Try.prog 12 #[.int .i64 o, .float .f64 x, .float .f64 y] w fun e w' => e = .returned (.tuple #[.float .f64 0, .int .i64 2]) ∧ Gr w w' := by
  have HO : Hid (∀ w, Calls Try.prog 23 #[.int .i64 o] w fun e w' => e = .returned (.bool false) ∧ w' = w) := fun w => by
    have := rorder o w
    rw [show (decide (0 ≤ o) && decide (o ≤ 14)) = false by simpa using fun h1 => Classical.not_not.1 fun h2 => h ⟨h1, by omega⟩] at this
    exact this
  go_enter Try.func12, Try.ntmps12
  go_wp2_with (go_at_call 23; with_reducible refine (HO.out _).mono ?_; rintro e w' ⟨rfl, rfl⟩)
  go_ret2
  exact ⟨rfl, Gr.refl _⟩
theorem rringS (o : Int) (x y : Nat) (w : World) (HO : Hid (∀ w, Calls Try.prog 23 #[.int .i64 o] w fun e w' => e = .returned (.bool true) ∧ w' = w))
    (HA : Hid (∀ w, Calls Try.prog 27 #[.float .f64 x] w fun e w' => e = .returned (.bool false) ∧ Gr w w')) :
    Calls Try.prog 12 #[.int .i64 o, .float .f64 x, .float .f64 y] w fun e w' => e = .returned (.tuple #[.float .f64 0, .int .i64 5]) ∧ Gr w w' := by
  go_enter Try.func12, Try.ntmps12
  go_wp2_with (first | (go_at_call 23; with_reducible refine (HO.out _).mono ?_; rintro e w' ⟨rfl, rfl⟩) | (go_at_call 27; with_reducible refine (HA.out _).mono ?_; rintro e w1 ⟨rfl, g1⟩))
  go_ret2
  exact ⟨rfl, g1⟩
theorem rringT (o : Int) (x y : Nat) (w : World) (HO : Hid (∀ w, Calls Try.prog 23 #[.int .i64 o] w fun e w' => e = .returned (.bool true) ∧ w' = w))
    (HA : Hid (∀ w, Calls Try.prog 27 #[.float .f64 x] w fun e w' => e = .returned (.bool true) ∧ Gr w w'))
    (HB : Hid (∀ w, Calls Try.prog 27 #[.float .f64 y] w fun e w' => e = .returned (.bool false) ∧ Gr w w')) :
    Calls Try.prog 12 #[.int .i64 o, .float .f64 x, .float .f64 y] w fun e w' => e = .returned (.tuple #[.float .f64 0, .int .i64 5]) ∧ Gr w w' := by
  have tok : True := trivial
  go_enter Try.func12, Try.ntmps12
  go_wp2_with (first | (go_at_call 23; with_reducible refine (HO.out _).mono ?_; rintro e w' ⟨rfl, rfl⟩) | (go_at_call 27; have _t := tok; with_reducible refine (HA.out _).mono ?_; rintro e w1 ⟨rfl, g1⟩; clear tok) | (go_at_call 27; with_reducible refine (HB.out _).mono ?_; rintro e w2 ⟨rfl, g2⟩))
  go_ret2
  exact ⟨rfl, g1.trans g2⟩
theorem rringU (o : Int) (x y : Nat) (w : World) (HO : Hid (∀ w, Calls Try.prog 23 #[.int .i64 o] w fun e w' => e = .returned (.bool true) ∧ w' = w))
    (HA : Hid (∀ w, Calls Try.prog 27 #[.float .f64 x] w fun e w' => e = .returned (.bool true) ∧ Gr w w'))
    (HB : Hid (∀ w, Calls Try.prog 27 #[.float .f64 y] w fun e w' => e = .returned (.bool true) ∧ Gr w w'))
    (p q : Bool) (hp : (FloatKind.f64.format.order x 8660422083433463808 == some .gt) = p) (hq : (FloatKind.f64.format.order y 8660422083433463808 == some .gt) = q) (hpq : (p || q) = true) :
    Calls Try.prog 12 #[.int .i64 o, .float .f64 x, .float .f64 y] w fun e w' => e = .returned (.tuple #[.float .f64 0, .int .i64 6]) ∧ Gr w w' := by
  have tok : True := trivial
  cases p
  · cases q
    · cases hpq
    · go_enter Try.func12, Try.ntmps12
      go_wp2_with (first | (go_at_call 23; with_reducible refine (HO.out _).mono ?_; rintro e w' ⟨rfl, rfl⟩) | (go_at_call 27; have _t := tok; with_reducible refine (HA.out _).mono ?_; rintro e w1 ⟨rfl, g1⟩; clear tok) | (go_at_call 27; with_reducible refine (HB.out _).mono ?_; rintro e w2 ⟨rfl, g2⟩) | (go_at_call 22; with_reducible refine (ldexp_900 _).mono ?_; rintro e w' ⟨rfl, rfl⟩))
      go_ret2
      exact ⟨rfl, g1.trans g2⟩
  · go_enter Try.func12, Try.ntmps12
    go_wp2_with (first | (go_at_call 23; with_reducible refine (HO.out _).mono ?_; rintro e w' ⟨rfl, rfl⟩) | (go_at_call 27; have _t := tok; with_reducible refine (HA.out _).mono ?_; rintro e w1 ⟨rfl, g1⟩; clear tok) | (go_at_call 27; with_reducible refine (HB.out _).mono ?_; rintro e w2 ⟨rfl, g2⟩) | (go_at_call 22; with_reducible refine (ldexp_900 _).mono ?_; rintro e w' ⟨rfl, rfl⟩))
    go_ret2
    exact ⟨rfl, g1.trans g2⟩
theorem rringW (k x y u v : Nat) (P1 P2 P3 Q : Nat → Prop) (w : World) (hk : k ≤ 14) (hp : (FloatKind.f64.format.order x 8660422083433463808 == some .gt) = false) (hq : (FloatKind.f64.format.order y 8660422083433463808 == some .gt) = false)
    (HO : Hid (∀ w, Calls Try.prog 23 #[.int .i64 (k : Int)] w fun e w' => e = .returned (.bool true) ∧ w' = w))
    (HA : Hid (∀ w, Calls Try.prog 27 #[.float .f64 x] w fun e w' => e = .returned (.bool true) ∧ Gr w w'))
    (HB : Hid (∀ w, Calls Try.prog 27 #[.float .f64 y] w fun e w' => e = .returned (.bool true) ∧ Gr w w'))
    (HP : Hid (∀ w, Calls Try.prog 30 #[.int .i64 (16 * ((k : Int) + 1)), .int .i64 (k : Int)] w fun e w' => e = .returned (.float .f64 u) ∧ w' = w))
    (HR : Hid (∀ w, Calls Try.prog 32 #[.int .i64 (k : Int)] w fun e w' => e = .returned (.float .f64 v) ∧ w' = w))
    (H1 : Hid (∀ w, Calls Try.prog 29 #[.float .f64 u, .float .f64 v] w fun e w' => (∃ r, P1 r ∧ e = .returned (.float .f64 r)) ∧ Gr w w'))
    (H2 : Hid (∀ p w, P1 p → Calls Try.prog 29 #[.float .f64 p, .float .f64 x] w fun e w' => (∃ r, P2 r ∧ e = .returned (.float .f64 r)) ∧ Gr w w'))
    (H3 : Hid (∀ p w, P2 p → Calls Try.prog 29 #[.float .f64 p, .float .f64 y] w fun e w' => (∃ r, P3 r ∧ e = .returned (.float .f64 r)) ∧ Gr w w'))
    (H4 : Hid (∀ p w, P3 p → Calls Try.prog 28 #[.float .f64 p, .float .f64 103582791429521408] w fun e w' => (∃ r, Q r ∧ e = .returned (.float .f64 r)) ∧ Gr w w'))
    (hQ : ∀ r, Q r → r ≤ 9218868437227405312) :
    Calls Try.prog 12 #[.int .i64 (k : Int), .float .f64 x, .float .f64 y] w fun e w' => (∃ r, Q r ∧ e = .returned (.tuple #[.float .f64 (if r = 9218868437227405312 then 0 else r), .int .i64 (if r = 9218868437227405312 then 6 else 0)])) ∧ Gr w w' := by
  have tok : True := trivial
  go_enter Try.func12, Try.ntmps12
  go_wp2_with (first | (go_at_call 23; with_reducible refine (HO.out _).mono ?_; rintro e w' ⟨rfl, rfl⟩) | (go_at_call 27; have _t := tok; with_reducible refine (HA.out _).mono ?_; rintro e w1 ⟨rfl, g1⟩; clear tok) | (go_at_call 27; with_reducible refine (HB.out _).mono ?_; rintro e w2 ⟨rfl, g2⟩) | (go_at_call 22; with_reducible refine (ldexp_900 _).mono ?_; rintro e w' ⟨rfl, rfl⟩) | (go_at_call 22; with_reducible refine (ldexp_1000 _).mono ?_; rintro e w' ⟨rfl, rfl⟩) | (go_at_call 30; with_reducible refine (HP.out _).mono ?_; rintro e w' ⟨rfl, rfl⟩) | (go_at_call 32; with_reducible refine (HR.out _).mono ?_; rintro e w' ⟨rfl, rfl⟩) | (go_at_call 29; with_reducible refine (H1.out _).mono ?_; rintro e w3 ⟨⟨p3, hp3, rfl⟩, g3⟩; have HP3 := hidden hp3; clear hp3 H1) | (go_at_call 29; with_reducible refine (H2.out _ _ HP3.out).mono ?_; rintro e w4 ⟨⟨p4, hp4, rfl⟩, g4⟩; have HP4 := hidden hp4; clear hp4 H2 HP3) | (go_at_call 29; with_reducible refine (H3.out _ _ HP4.out).mono ?_; rintro e w5 ⟨⟨p5, hp5, rfl⟩, g5⟩; have HP5 := hidden hp5; clear hp5) | (go_at_call 28; with_reducible refine (H4.out _ _ HP5.out).mono ?_; rintro e w6 ⟨⟨p6, hp6, rfl⟩, g6⟩; have HP6 := hidden hp6; clear hp6))
  have GG := ((((g1.trans g2).trans g3).trans g4).trans g5).trans g6
  clear g1 g2 g3 g4 g5 g6 HO HA HB HP HR H3 H4
  by_cases hi : p6 = 9218868437227405312
  · subst hi
    obtain ⟨z, h1, h2⟩ := run_float_nan .sub (by simp) 22 (W false 9218868437227405312) (W false 9218868437227405312) w6 (sub_inf false)
    have h1' : (binOp .sub 22 (.float .f64 9218868437227405312) (.float .f64 9218868437227405312)).run Try.prog w6 = .ok (.float .f64 z) w6.drew := h1
    have h3 : (FloatKind.f64.format.order z 0 != some .eq) = true := by rw [bne, nan_order z 0 h2]; rfl
    rw [h1']
    simp only [Result.andThen]
    rw [Oper.upon_value]
    clear h1 h2 h1'
    go_wp2
    go_ret2
    exact ⟨⟨_, HP6.out, rfl⟩, GG.drew⟩
  · have h1 := sub_run w6 _ _ _ (sub_self false p6 (by have := hQ p6 HP6.out; omega))
    have h1' : (binOp .sub 22 (.float .f64 p6) (.float .f64 p6)).run Try.prog w6 = .ok (.float .f64 0) w6 := h1
    have hz : (FloatKind.f64.format.order 0 0 != some .eq) = false := by decide +kernel
    rw [h1']
    simp only [Result.andThen]
    rw [Oper.upon_value]
    clear h1 h1'
    go_wp2
    go_ret2
    exact ⟨⟨p6, HP6.out, by rw [if_neg hi, if_neg hi]; rfl⟩, GG⟩
theorem rsizeT (s : Bool) (r : Nat) (w : World) (hr : r < 9218868437227405312) (hs : s = true → r = 0) : Calls Try.prog 27 #[.float .f64 (W s r)] w fun e w' => e = .returned (.bool true) ∧ Gr w w' := by
  have := rsize s r w (by omega)
  rw [isSizeB hr hs] at this
  exact this
theorem rsizeF (s : Bool) (r : Nat) (w : World) (hr : r < 9223372036854775808) (hz : NoSize s r) : Calls Try.prog 27 #[.float .f64 (W s r)] w fun e w' => e = .returned (.bool false) ∧ Gr w w' := by
  have := rsize s r w hr
  rw [noSizeB hr hz] at this
  exact this
theorem rringR (o : Int) (s t : Bool) (a b : Nat) (w : World) (ha : a < 9223372036854775808) (hb : b < 9223372036854775808) (h : 0 ≤ o ∧ o ≤ 14) (hz : NoSize s a ∨ NoSize t b) :
    Calls Try.prog 12 #[.int .i64 o, .float .f64 (W s a), .float .f64 (W t b)] w fun e w' => e = .returned (.tuple #[.float .f64 0, .int .i64 5]) ∧ Gr w w' := by
  by_cases h1 : NoSize s a
  · exact rringS o _ _ w (fun w => ordT o h w) (fun w => rsizeF s a w ha h1)
  · have h2 : NoSize t b := hz.resolve_left h1
    unfold NoSize at h1
    have h3 := Classical.not_not.1 h1
    exact rringT o _ _ w (fun w => ordT o h w) (fun w => rsizeT s a w h3.1 h3.2) (fun w => rsizeF t b w hb h2)
theorem rringO (o : Int) (s t : Bool) (a b : Nat) (w : World) (h : 0 ≤ o ∧ o ≤ 14) (ha : a < 9218868437227405312) (hs : s = true → a = 0) (hb : b < 9218868437227405312) (ht : t = true → b = 0) (hov : 8660422083433463808 < a ∨ 8660422083433463808 < b) :
    Calls Try.prog 12 #[.int .i64 o, .float .f64 (W s a), .float .f64 (W t b)] w fun e w' => e = .returned (.tuple #[.float .f64 0, .int .i64 6]) ∧ Gr w w' :=
  rringU o _ _ w (fun w => ordT o h w) (fun w => rsizeT s a w ha hs) (fun w => rsizeT t b w hb ht) _ _ (overB_W s a (by omega) hs) (overB_W t b (by omega) ht) (by
    rcases hov with h | h
    · rw [decide_eq_true h]; rfl
    · rw [decide_eq_true h, Bool.or_true])
theorem rringP (k : Nat) (s t : Bool) (a b : Nat) (w : World) (hk : k ≤ 14) (ha : a ≤ 8660422083433463808) (hs : s = true → a = 0) (hb : b ≤ 8660422083433463808) (ht : t = true → b = 0) :
    Calls Try.prog 12 #[.int .i64 (k : Int), .float .f64 (W s a), .float .f64 (W t b)] w fun e w' => (∃ r2, (∃ p, RingR k a b p ∧ DirUp (M p + M 103582791429521408) 1 r2) ∧ e = .returned (.tuple #[.float .f64 (if r2 = 9218868437227405312 then 0 else r2), .int .i64 (if r2 = 9218868437227405312 then 6 else 0)])) ∧ Gr w w' := by
  obtain ⟨u1, u2⟩ := uB_at k hk
  obtain ⟨s1, s2, s3⟩ := sq_at k hk
  have hP1 : ∀ p1, DirUp (M (uB.getD k 0) * M (sqT.getD k 0)) U p1 → p1 ≤ 4499096027743125504 := fun p1 h => dirUp_le h U_pos (Nat.le_trans (Nat.mul_le_mul (M_le u2) (M_le s3)) c24)
  have hP2 : ∀ p1 p2, p1 ≤ 4499096027743125504 → DirUp (M p1 * M a) U p2 → p2 ≤ 8552335692376571904 := fun p1 p2 h1 h => dirUp_le h U_pos (Nat.le_trans (Nat.mul_le_mul (M_le h1) (M_le ha)) c876)
  refine rringW k (W s a) (W t b) (uB.getD k 0) (sqT.getD k 0) (fun p => DirUp (M (uB.getD k 0) * M (sqT.getD k 0)) U p) (fun p => ∃ p1, DirUp (M (uB.getD k 0) * M (sqT.getD k 0)) U p1 ∧ DirUp (M p1 * M a) U p) (fun p => RingR k a b p) (fun r2 => ∃ p, RingR k a b p ∧ DirUp (M p + M 103582791429521408) 1 r2) w hk ?_ ?_ (fun w => ordT (k : Int) (by omega) w) (fun w => rsizeT s a w (by omega) hs) (fun w => rsizeT t b w (by omega) ht) (fun w => ?_) (fun w => rroot k w hk) (fun w => ?_) (fun p w hp => ?_) (fun p w hp => ?_) (fun p w hp => ?_) (fun r ⟨p, _, h⟩ => h.1)
  · have := overB_W s a (by omega) hs
    rw [decide_eq_false (by omega)] at this
    exact this
  · have := overB_W t b (by omega) ht
    rw [decide_eq_false (by omega)] at this
    exact this
  · have := rpart (16 * (k + 1)) k (uB.getD k 0) w (by omega) hk u1 (by omega)
    rw [show ((16 * (k + 1) : Nat) : Int) = 16 * ((k : Int) + 1) by omega] at this
    exact this
  · exact rtimes false false (uB.getD k 0) (sqT.getD k 0) w (by omega) (by omega) (fun h => by cases h) (fun h => by cases h)
  · have := hP1 p hp
    refine (rtimes false s p a w (by omega) (by omega) (fun h => by cases h) hs).mono ?_
    rintro e w' ⟨⟨r, h1, rfl⟩, g⟩
    exact ⟨⟨r, ⟨p, hp, h1⟩, rfl⟩, g⟩
  · obtain ⟨p1, h1, h2⟩ := hp
    have q1 := hP1 p1 h1
    have q2 := hP2 p1 p q1 h2
    refine (rtimes false t p b w (by omega) (by omega) (fun h => by cases h) ht).mono ?_
    rintro e w' ⟨⟨r, h3, rfl⟩, g⟩
    exact ⟨⟨r, ⟨p1, p, h1, h2, h3, by omega, by omega⟩, rfl⟩, g⟩
  · by_cases hi : p = 9218868437227405312
    · subst hi
      refine (rplusI 103582791429521408 w).mono ?_
      rintro e w' ⟨rfl, g⟩
      refine ⟨⟨_, ⟨_, hp, Nat.le_refl _, fun h => absurd h (by omega), fun _ => ?_⟩, rfl⟩, g⟩
      have := M_lt (show 9218868437227405312 - 1 < 9218868437227405312 by omega)
      omega
    · have hle : p ≤ 9218868437227405312 := by
        obtain ⟨_, _, _, _, h3, _⟩ := hp
        exact h3.1
      refine (rplus p 103582791429521408 w (by omega) (by omega)).mono ?_
      rintro e w' ⟨⟨r, h1, rfl⟩, g⟩
      exact ⟨⟨r, ⟨p, hp, h1⟩, rfl⟩, g⟩
end Go.Proofs.Ytcgbdpgfpickaaa.Fl
namespace Go.Proofs.Ytcgbdpgfpickaaa.Fl
open Go.RowKit
open Ieee
set_option linter.unusedVariables false

/-! BOTH TELL THE SAME -/
theorem dirUp_one {N D r r' : Nat} (hD : 0 < D) (h : DirUp N D r) (h' : DirUp N D r') : r = r' := dir_unique (out := true) hD h h'
def Two (f g : FuncId) (args : Array Value) : Prop := ∃ (v : Nat) (c : Int), (∀ w, Calls Try.prog f args w fun e w' => e = .returned (.tuple #[.float .f64 v, .int .i64 c]) ∧ Gr w w') ∧ (∀ w, Calls Try.prog g args w fun e w' => e = .returned (.tuple #[.float .f64 v, .int .i64 c]) ∧ Gr w w')
theorem rootsT (o : Int) : Two 6 7 #[.int .i64 o] := by
  by_cases h : 0 ≤ o ∧ o ≤ 14
  · exact ⟨_, _, fun w => (rootsD o w h).mono fun _ _ ⟨a, b⟩ => ⟨a, Gr.of_eq b⟩, fun w => (rrootsD o w h).mono fun _ _ ⟨a, b⟩ => ⟨a, Gr.of_eq b⟩⟩
  · exact ⟨_, _, fun w => (rootsA o w h).mono fun _ _ ⟨a, b⟩ => ⟨a, Gr.of_eq b⟩, fun w => (rrootsA o w h).mono fun _ _ ⟨a, b⟩ => ⟨a, Gr.of_eq b⟩⟩
theorem up_ex (r : Nat) (hr : r ≤ 9218868437227405312) : ∃ r2, DirUp (M r + M 103582791429521408) 1 r2 := by
  obtain ⟨r2, h, _⟩ := add_up false r hr (fun h => by cases h)
  exact ⟨r2, h⟩
theorem mul_ex (a b : Nat) (ha : a < 9218868437227405312) (hb : b < 9218868437227405312) : ∃ p, DirUp (M a * M b) U p := by
  obtain ⟨_, p, h, _⟩ := mul_up false false a b ha hb (fun h => by cases h) (fun h => by cases h)
  exact ⟨p, h⟩
theorem turnT (o : Int) (s : Bool) (r : Nat) (hr : r < 9223372036854775808) : Two 9 10 #[.int .i64 o, .float .f64 (W s r)] := by
  by_cases h : 0 ≤ o ∧ o ≤ 14
  · by_cases hz : NoSize s r
    · exact ⟨_, _, fun w => turnR o s r w hr h hz, fun w => rturnR o s r w hr h hz⟩
    · obtain ⟨z1, z2⟩ := Classical.not_not.1 hz
      by_cases hb : 8660422083433463808 < r
      · exact ⟨_, _, fun w => turnO o s r w h z1 z2 hb, fun w => rturnO o s r w h z1 z2 hb⟩
      · obtain ⟨k, rfl⟩ : ∃ k : Nat, o = (k : Int) := ⟨o.toNat, by omega⟩
        obtain ⟨u1, u2⟩ := uA_at k (by omega)
        obtain ⟨p, hp⟩ := mul_ex (uA.getD k 0) r (by omega) z1
        obtain ⟨r2, h2⟩ := up_ex p hp.1
        refine ⟨r2, 0, fun w => (turnP k s r w (by omega) (by omega) z2).mono ?_, fun w => (rturnP k s r w (by omega) (by omega) z2).mono ?_⟩
        · rintro e w' ⟨⟨q2, ⟨q, g1, g2, _⟩, rfl⟩, g⟩
          obtain rfl := dirUp_one U_pos g1 hp
          obtain rfl := dirUp_one (by omega) g2 h2
          exact ⟨rfl, g⟩
        · rintro e w' ⟨⟨q2, ⟨q, g1, g2⟩, rfl⟩, g⟩
          obtain rfl := dirUp_one U_pos g1 hp
          obtain rfl := dirUp_one (by omega) g2 h2
          exact ⟨rfl, g⟩
  · exact ⟨_, _, fun w => turnA o _ w h, fun w => rturnA o _ w h⟩
theorem ring_one {k a b p q : Nat} (h : RingR k a b p) (h' : RingR k a b q) : p = q := by
  obtain ⟨p1, p2, a1, a2, a3, _, _⟩ := h
  obtain ⟨q1, q2, b1, b2, b3, _, _⟩ := h'
  obtain rfl := dirUp_one U_pos a1 b1
  obtain rfl := dirUp_one U_pos a2 b2
  exact dirUp_one U_pos a3 b3
theorem ringT (o : Int) (s t : Bool) (a b : Nat) (ha : a < 9223372036854775808) (hb : b < 9223372036854775808) : Two 11 12 #[.int .i64 o, .float .f64 (W s a), .float .f64 (W t b)] := by
  by_cases h : 0 ≤ o ∧ o ≤ 14
  · by_cases hz : NoSize s a ∨ NoSize t b
    · exact ⟨_, _, fun w => ringR o s t a b w ha hb h hz, fun w => rringR o s t a b w ha hb h hz⟩
    · obtain ⟨y1, y2⟩ := Classical.not_not.1 (fun hh => hz (Or.inl hh))
      obtain ⟨z1, z2⟩ := Classical.not_not.1 (fun hh => hz (Or.inr hh))
      by_cases hov : 8660422083433463808 < a ∨ 8660422083433463808 < b
      · exact ⟨_, _, fun w => ringO o s t a b w h y1 y2 z1 z2 hov, fun w => rringO o s t a b w h y1 y2 z1 z2 hov⟩
      · obtain ⟨k, rfl⟩ : ∃ k : Nat, o = (k : Int) := ⟨o.toNat, by omega⟩
        obtain ⟨u1, u2⟩ := uB_at k (by omega)
        obtain ⟨s1, s2, s3⟩ := sq_at k (by omega)
        obtain ⟨p1, h1⟩ := mul_ex (uB.getD k 0) (sqT.getD k 0) (by omega) (by omega)
        have q1 : p1 ≤ 4499096027743125504 := dirUp_le h1 U_pos (Nat.le_trans (Nat.mul_le_mul (M_le u2) (M_le s3)) c24)
        obtain ⟨p2, h2⟩ := mul_ex p1 a (by omega) y1
        have q2 : p2 ≤ 8552335692376571904 := dirUp_le h2 U_pos (Nat.le_trans (Nat.mul_le_mul (M_le q1) (M_le (show a ≤ 8660422083433463808 by omega))) c876)
        obtain ⟨p, h3⟩ := mul_ex p2 b (by omega) z1
        have hR : RingR k a b p := ⟨p1, p2, h1, h2, h3, by omega, by omega⟩
        obtain ⟨r2, h4⟩ := up_ex p h3.1
        refine ⟨if r2 = 9218868437227405312 then 0 else r2, if r2 = 9218868437227405312 then 6 else 0, fun w => (ringP k s t a b w (by omega) (by omega) y2 (by omega) z2).mono ?_, fun w => (rringP k s t a b w (by omega) (by omega) y2 (by omega) z2).mono ?_⟩
        · rintro e w' ⟨⟨q, q2, g1, g2, rfl⟩, g⟩
          obtain rfl := ring_one g1 hR
          obtain rfl := dirUp_one (by omega) g2 h4
          exact ⟨rfl, g⟩
        · rintro e w' ⟨⟨q2, ⟨q, g1, g2⟩, rfl⟩, g⟩
          obtain rfl := ring_one g1 hR
          obtain rfl := dirUp_one (by omega) g2 h4
          exact ⟨rfl, g⟩
  · exact ⟨_, _, fun w => ringA o _ _ w h, fun w => rringA o _ _ w h⟩
/-! THE STATEMENT'S OWN -/
theorem same_refl (x : Nat) : sameB x x = true := by unfold sameB; simp
theorem is8 (x : Nat) (c : Int) (w : World) : Calls Try.prog 8 #[.float .f64 x, .int .i64 c, .float .f64 x, .int .i64 c] w fun e w' => e = .returned (.bool true) ∧ w' = w := by
  have hc : (c == c) = true := by simp
  go_enter Try.func8, Try.ntmps8
  go_wp2_with (go_at_call 24; with_reducible refine (same_true _ _ _ (same_refl _)).mono ?_; rintro e w' ⟨rfl, rfl⟩)
  go_ret
  exact ⟨rfl, rfl⟩
theorem next_i (x y : Nat) (w : World) (hx : x + 1 < 18446744073709551616) (h1 : nanB x = false) (h2 : nanB y = false) (h3 : (FloatKind.f64.format.order x y == some .eq) = false) (h4 : (FloatKind.f64.format.order x 0 == some .eq) = false)
    (h5 : (FloatKind.f64.format.order y x == some .gt) = true) (h6 : (FloatKind.f64.format.order x 0 == some .gt) = true) :
    Calls Try.prog 15 #[.float .f64 x, .float .f64 y] w fun e w' => e = .returned (.float .f64 (x + 1)) ∧ w' = w := by
  have b1 := bits14
  have b2 := from13
  go_enter Try.func15, Try.ntmps15
  go_wp2_with (go_at_call 35; refine (nan11 _ _).mono ?_; rintro e w' ⟨rfl, rfl⟩)
  go_ret
  refine ⟨?_, rfl⟩
  show Ending.returned (.float .f64 _) = _
  congr 2
theorem n49 (w : World) : Calls Try.prog 15 #[.float .f64 4386506037058863104, .float .f64 4607182418800017408] w fun e w' => e = .returned (.float .f64 4386506037058863105) ∧ w' = w :=
  next_i 4386506037058863104 4607182418800017408 w (by omega) (by decide +kernel) (by decide +kernel) (by decide +kernel) (by decide +kernel) (by decide +kernel) (by decide +kernel)
theorem n171 (w : World) : Calls Try.prog 15 #[.float .f64 4595360469778169856, .float .f64 4607182418800017408] w fun e w' => e = .returned (.float .f64 4595360469778169857) ∧ w' = w :=
  next_i 4595360469778169856 4607182418800017408 w (by omega) (by decide +kernel) (by decide +kernel) (by decide +kernel) (by decide +kernel) (by decide +kernel) (by decide +kernel)
theorem dirUp_of {N D r : Nat} (h : (decide (r ≤ 9218868437227405312) && decide (N ≤ M r * D) && decide (M (r - 1) * D < N)) = true) : DirUp N D r := by
  simp only [Bool.and_eq_true, decide_eq_true_eq] at h
  exact ⟨h.1.1, fun _ => h.1.2, fun _ => h.2⟩
theorem a1 : DirUp (M (uA.getD 1 0) * M 4607182418800017408) U 4386506037058863104 := dirUp_of (by decide +kernel)
theorem a2 : DirUp (M 4386506037058863104 + M 103582791429521408) 1 4386506037058863105 := dirUp_of (by decide +kernel)
theorem a3 : DirUp (M (uB.getD 10 0) * M (sqT.getD 10 0)) U 4469259680211795968 := dirUp_of (by decide +kernel)
theorem a4 : DirUp (M 4469259680211795968 * M 4670232813583204352) U 4532310074994982912 := dirUp_of (by decide +kernel)
theorem a5 : DirUp (M 4532310074994982912 * M 4670232813583204352) U 4595360469778169856 := dirUp_of (by decide +kernel)
theorem a6 : DirUp (M 4595360469778169856 + M 103582791429521408) 1 4595360469778169857 := dirUp_of (by decide +kernel)
theorem turn_a (w : World) : Calls Try.prog 9 #[.int .i64 1, .float .f64 4607182418800017408] w fun e w' => e = .returned (.tuple #[.float .f64 4386506037058863105, .int .i64 0]) ∧ Gr w w' := by
  refine (turnP 1 false 4607182418800017408 w (by omega) (by omega) (fun h => by cases h)).mono ?_
  rintro e w' ⟨⟨q2, ⟨q, g1, g2, _⟩, rfl⟩, g⟩
  obtain rfl := dirUp_one U_pos g1 a1
  obtain rfl := dirUp_one (by omega) g2 a2
  exact ⟨rfl, g⟩
theorem ring_a (w : World) : Calls Try.prog 11 #[.int .i64 10, .float .f64 4670232813583204352, .float .f64 4670232813583204352] w fun e w' => e = .returned (.tuple #[.float .f64 4595360469778169857, .int .i64 0]) ∧ Gr w w' := by
  refine (ringP 10 false false 4670232813583204352 4670232813583204352 w (by omega) (by omega) (fun h => by cases h) (by omega) (fun h => by cases h)).mono ?_
  rintro e w' ⟨⟨q, q2, g1, g2, rfl⟩, g⟩
  obtain rfl := ring_one g1 ⟨_, _, a3, a4, a5, by omega, by omega⟩
  obtain rfl := dirUp_one (by omega) g2 a6
  exact ⟨rfl, g⟩
theorem awake13 (w : World) : Calls Try.prog 13 #[] w fun e w' => e = .returned (.bool true) ∧ Gr w w' := by
  have TA := hide turn_a
  have RA := hide ring_a
  go_enter Try.func13, Try.ntmps13
  go_wp2_with (first | (go_at_call 9; with_reducible refine (TA.out _).mono ?_; rintro e w1 ⟨rfl, g1⟩) | (go_at_call 11; with_reducible refine (RA.out _).mono ?_; rintro e w2 ⟨rfl, g2⟩) | (go_at_call 6; with_reducible refine (rootsD _ _ (by omega)).mono ?_; rintro e w' ⟨rfl, rfl⟩) | (go_at_call 15; with_reducible refine (n49 _).mono ?_; rintro e w' ⟨rfl, rfl⟩) | (go_at_call 15; with_reducible refine (n171 _).mono ?_; rintro e w' ⟨rfl, rfl⟩) | (go_at_call 8; with_reducible refine (is8 _ _ _).mono ?_; rintro e w' ⟨rfl, rfl⟩))
  go_ret
  exact ⟨rfl, g1.trans g2⟩
theorem tells3 (o : Int) (s t : Bool) (a b : Nat) (w : World) (ha : a < 9223372036854775808) (hb : b < 9223372036854775808) :
    Calls Try.prog 3 #[.int .i64 o, .float .f64 (W s a), .float .f64 (W t b)] w fun e w' => e = .returned (.bool true) ∧ Gr w w' := by
  obtain ⟨v1, c1, F1, R1⟩ := rootsT o
  obtain ⟨v2, c2, F2, R2⟩ := turnT o s a ha
  obtain ⟨v3, c3, F3, R3⟩ := ringT o s t a b ha hb
  have F1 := hide F1
  have F2 := hide F2
  have F3 := hide F3
  have R1 := hide R1
  have R2 := hide R2
  have R3 := hide R3
  generalize W s a = x at *
  generalize W t b = y at *
  clear ha hb
  go_enter Try.func3, Try.ntmps3
  go_wp2_with (first | (go_at_call 6; with_reducible refine (F1.out _).mono ?_; rintro e w1 ⟨rfl, g1⟩) | (go_at_call 7; with_reducible refine (R1.out _).mono ?_; rintro e w2 ⟨rfl, g2⟩) | (go_at_call 9; with_reducible refine (F2.out _).mono ?_; rintro e w3 ⟨rfl, g3⟩) | (go_at_call 10; with_reducible refine (R2.out _).mono ?_; rintro e w4 ⟨rfl, g4⟩) | (go_at_call 11; with_reducible refine (F3.out _).mono ?_; rintro e w5 ⟨rfl, g5⟩) | (go_at_call 12; with_reducible refine (R3.out _).mono ?_; rintro e w6 ⟨rfl, g6⟩) | (go_at_call 8; with_reducible refine (is8 _ _ _).mono ?_; rintro e w' ⟨rfl, rfl⟩) | (go_at_call 13; with_reducible refine (awake13 _).mono ?_; rintro e w7 ⟨rfl, g7⟩))
  go_ret
  exact ⟨rfl, (((((g1.trans g2).trans g3).trans g4).trans g5).trans g6).trans g7⟩
end Go.Proofs.Ytcgbdpgfpickaaa.Fl
