import Derived.Test.YtcgbdpgfpickaaaK15
import Derived.Test.YtcgbdpgfpickaaaK10
namespace Go.Proofs.Ytcgbdpgfpickaaa.Fl
open Go.RowKit
open Ieee
set_option linter.unusedVariables false

theorem sizeB_W (s : Bool) (r : Nat) (h : r < 9223372036854775808) : sizeB (W s r) = (decide (r < 9218868437227405312) && (!s || decide (r = 0))) := by
  unfold sizeB
  by_cases hn : r ≤ 9218868437227405312
  · rw [posB_W s r hn, zeroB_W s r hn, pinfB_W s r hn]
    by_cases h0 : r = 0
    · subst h0; cases s <;> decide
    · by_cases hi : r = 9218868437227405312
      · subst hi; cases s <;> decide
      · rw [decide_eq_true (show r ≠ 0 from h0), decide_eq_false h0, decide_eq_false hi, decide_eq_true (show r < 9218868437227405312 by omega)]
        cases s <;> rfl
  · have h1 : posB (W s r) = false := by unfold posB; rw [f64_format, order_nan_left s r _ h (by omega)]; rfl
    have h2 : zeroB (W s r) = false := by unfold zeroB; rw [f64_format, order_nan_left s r _ h (by omega)]; rfl
    rw [h1, h2, decide_eq_false (by omega)]
    rfl
theorem overB_W (s : Bool) (r : Nat) (h : r ≤ 9218868437227405312) (hs : s = true → r = 0) : overB (W s r) = decide (8660422083433463808 < r) := by
  unfold overB
  have e : (8660422083433463808 : Nat) = W false 8660422083433463808 := rfl
  conv => lhs; rw [e]
  rw [B_gt s false r _ h (by omega)]
  refine decide_eq_decide.2 ?_
  have hv : val s r = (M r : Int) := by
    cases s
    · rfl
    · obtain rfl := hs rfl; rfl
  rw [hv]
  show (M 8660422083433463808 : Int) < (M r : Int) ↔ _
  constructor
  · intro h1
    refine Nat.lt_of_not_le fun hle => ?_
    have := M_le hle
    omega
  · intro h1
    have := M_lt h1
    omega
theorem dirUp_le {N D p R : Nat} (h : DirUp N D p) (hD : 0 < D) (hN : N ≤ M R * D) : p ≤ R := by
  refine Nat.le_of_not_lt fun hlt => ?_
  have h1 := h.2.2 (by omega)
  have h2 : M R ≤ M (p - 1) := M_le (by omega)
  have h3 := Nat.mul_le_mul_right D h2
  omega
theorem c870 : M 4472074429978902528 * M 8660422083433463808 ≤ M 8525314094612348928 * U := by decide +kernel
theorem c871 : M 8525314094612348928 + M 103582791429521408 ≤ M 8529817694239719424 * 1 := by decide +kernel
theorem turn_fin {u r p r2 : Nat} (hu : u ≤ 4472074429978902528) (hr : r ≤ 8660422083433463808) (h1 : DirUp (M u * M r) U p) (h2 : DirUp (M p + M 103582791429521408) 1 r2) : r2 < 9218868437227405312 := by
  have q1 : p ≤ 8525314094612348928 := dirUp_le h1 U_pos (Nat.le_trans (Nat.mul_le_mul (M_le hu) (M_le hr)) c870)
  have q2 : r2 ≤ 8529817694239719424 := dirUp_le h2 (by omega) (Nat.le_trans (Nat.add_le_add_right (M_le q1) _) c871)
  omega
/-- WHAT Turn TELLS -/
theorem turnP (k : Nat) (s : Bool) (r : Nat) (w : World) (hk : k ≤ 14) (hr : r ≤ 8660422083433463808) (hs : s = true → r = 0) :
    Calls Try.prog 9 #[.int .i64 (k : Int), .float .f64 (W s r)] w fun e w' => (∃ r2, (∃ p, DirUp (M (uA.getD k 0) * M r) U p ∧ DirUp (M p + M 103582791429521408) 1 r2 ∧ r2 < 9218868437227405312) ∧ e = .returned (.tuple #[.float .f64 r2, .int .i64 0])) ∧ Gr w w' := by
  obtain ⟨u1, u2⟩ := uA_at k hk
  have hz : sizeB (W s r) = true := by
    rw [sizeB_W s r (by omega), decide_eq_true (show r < 9218868437227405312 by omega)]
    cases s
    · rfl
    · rw [hs rfl]; rfl
  have ho : overB (W s r) = false := by rw [overB_W s r (by omega) hs]; exact decide_eq_false (by omega)
  refine turnD k (W s r) _ (uA.getD k 0) w hk (fun w ad hF => refusalD _ _ 1 1 _ w (by omega) (by omega) hF (fun _ _ => hz) (fun _ _ => ho)) (fun w => ?_) (fun w ad hF => ?_)
  · have := units26 (8 * k) k (uA.getD k 0) w (by omega) hk u1 (by omega)
    rw [show ((8 * k : Nat) : Int) = 8 * (k : Int) by omega] at this
    exact this
  · refine (bound25 (uA.getD k 0) ad 1 1 (fun _ => W s r) (fun _ => r) w (by omega) hF (fun j hj => ⟨s, rfl, by omega, hs⟩) (by omega) (fun j hj q hq => ?_)).mono ?_
    · obtain rfl : j = 0 := by omega
      have hq : q = uA.getD k 0 := hq
      omega
    · rintro e w' ⟨⟨p, r2, ⟨q, hq, hq2, hp⟩, h2, rfl⟩, rfl⟩
      have hq : q = uA.getD k 0 := hq
      subst hq
      have hfin := turn_fin u2 hr hp h2
      refine ⟨⟨r2, ⟨p, hp, h2, hfin⟩, ?_⟩, rfl⟩
      rw [if_neg (by omega), if_neg (by omega)]
theorem turnR (o : Int) (s : Bool) (r : Nat) (w : World) (hr : r < 9223372036854775808) (h : 0 ≤ o ∧ o ≤ 14) (hz : ¬ (r < 9218868437227405312 ∧ (s = true → r = 0))) :
    Calls Try.prog 9 #[.int .i64 o, .float .f64 (W s r)] w fun e w' => e = .returned (.tuple #[.float .f64 0, .int .i64 5]) ∧ Gr w w' := by
  refine turnE o (W s r) 5 w rfl fun w ad hF => refusalB o ad 1 1 0 _ w h (by omega) hF (by omega) (fun j hj => absurd hj (by omega)) ?_
  rw [sizeB_W s r hr]
  by_cases h1 : r < 9218868437227405312
  · rw [decide_eq_true h1]
    cases s
    · exact absurd ⟨h1, fun h => by cases h⟩ hz
    · rw [decide_eq_false (fun h0 => hz ⟨h1, fun _ => h0⟩)]; rfl
  · rw [decide_eq_false h1]; rfl
theorem turnO (o : Int) (s : Bool) (r : Nat) (w : World) (h : 0 ≤ o ∧ o ≤ 14) (hz : r < 9218868437227405312) (hs : s = true → r = 0) (hb : 8660422083433463808 < r) :
    Calls Try.prog 9 #[.int .i64 o, .float .f64 (W s r)] w fun e w' => e = .returned (.tuple #[.float .f64 0, .int .i64 6]) ∧ Gr w w' := by
  refine turnE o (W s r) 6 w rfl fun w ad hF => refusalC o ad 1 1 0 _ w h (by omega) hF (by omega) (fun j hj => ?_) (fun j hj => absurd hj (by omega)) ?_
  · rw [sizeB_W s r (by omega), decide_eq_true hz]
    cases s
    · rfl
    · rw [hs rfl]; rfl
  · rw [overB_W s r (by omega) hs, decide_eq_true hb]
theorem turnA (o : Int) (x : Nat) (w : World) (h : ¬ (0 ≤ o ∧ o ≤ 14)) :
    Calls Try.prog 9 #[.int .i64 o, .float .f64 x] w fun e w' => e = .returned (.tuple #[.float .f64 0, .int .i64 2]) ∧ Gr w w' :=
  turnE o x 2 w rfl fun w ad hF => refusalA o ad 1 1 w h
end Go.Proofs.Ytcgbdpgfpickaaa.Fl
namespace Go.Proofs.Ytcgbdpgfpickaaa.Fl
open Go.RowKit
open Ieee
set_option linter.unusedVariables false

theorem ringE (o : Int) (x y : Nat) (c : Int) (w : World) (hc : (c != 0) = true) (HR : Hid (∀ (w : World) ad, Fs w ad 2 (fun j => if j = 0 then x else y) → Calls Try.prog 21 #[.int .i64 o, .slice ad 2 2] w fun e w' => e = .returned (.int .i64 c) ∧ w' = w)) :
    Calls Try.prog 11 #[.int .i64 o, .float .f64 x, .float .f64 y] w fun e w' => e = .returned (.tuple #[.float .f64 0, .int .i64 c]) ∧ Gr w w' := by
  go_enter Try.func11, Try.ntmps11
  go_wp2_with (go_at_call 21; with_reducible refine (HR.out _ _ (fs2 _ _ _ _)).mono ?_; rintro e w' ⟨rfl, rfl⟩)
  go_ret2
  exact ⟨rfl, (Gr.refl w).alloc _⟩
theorem ringD (k : Nat) (x y : Nat) (P : Value → Prop) (u p2 sq : Nat) (w : World) (hk : k ≤ 14) (HR : Hid (∀ (w : World) ad, Fs w ad 2 (fun j => if j = 0 then x else y) → Calls Try.prog 21 #[.int .i64 (k : Int), .slice ad 2 2] w fun e w' => e = .returned (.int .i64 0) ∧ w' = w))
    (HL : Hid (∀ (w : World), Calls Try.prog 22 #[.float .f64 4607182418800017408, .int .i64 (k : Int)] w fun e w' => e = .returned (.float .f64 p2) ∧ w' = w))
    (HS : Hid (∀ (w : World), Calls Try.prog 31 #[.float .f64 p2, .bool true] w fun e w' => e = .returned (.float .f64 sq) ∧ w' = w))
    (HU : Hid (∀ (w : World), Calls Try.prog 26 #[.int .i64 (16 * ((k : Int) + 1)), .int .i64 (k : Int)] w fun e w' => e = .returned (.float .f64 u) ∧ w' = w))
    (HB : Hid (∀ (w : World) ad, Fs w ad 3 (fun j => if j = 0 then sq else if j = 1 then x else y) → Calls Try.prog 25 #[.float .f64 u, .slice ad 3 3] w fun e w' => (∃ a b, P (.tuple #[.float .f64 a, .int .i64 b]) ∧ e = .returned (.tuple #[.float .f64 a, .int .i64 b])) ∧ w' = w)) :
    Calls Try.prog 11 #[.int .i64 (k : Int), .float .f64 x, .float .f64 y] w fun e w' => (∃ a b, P (.tuple #[.float .f64 a, .int .i64 b]) ∧ e = .returned (.tuple #[.float .f64 a, .int .i64 b])) ∧ Gr w w' := by
  have F2 : Fs ((w.alloc (.cells #[.float .f64 x, .float .f64 y] 22)).alloc (.cells #[.float .f64 sq, .float .f64 x, .float .f64 y] 22)) (some ⟨w.heap.size + 1, 0, none⟩) 3 (fun j => if j = 0 then sq else if j = 1 then x else y) := by
    have := fs3 (w.alloc (.cells #[.float .f64 x, .float .f64 y] 22)) sq x y 22
    rw [show (w.alloc (.cells #[.float .f64 x, .float .f64 y] 22)).heap.size = w.heap.size + 1 by simp] at this
    exact this
  go_enter Try.func11, Try.ntmps11
  go_wp2_with (first | (go_at_call 21; with_reducible refine (HR.out _ _ (fs2 _ _ _ _)).mono ?_; rintro e w' ⟨rfl, rfl⟩) | (go_at_call 22; with_reducible refine (HL.out _).mono ?_; rintro e w' ⟨rfl, rfl⟩) | (go_at_call 31; with_reducible refine (HS.out _).mono ?_; rintro e w' ⟨rfl, rfl⟩) | (go_at_call 26; with_reducible refine (HU.out _).mono ?_; rintro e w' ⟨rfl, rfl⟩) | (go_at_call 25; with_reducible refine (HB.out _ _ F2).mono ?_; rintro e w' ⟨⟨a, b, hp, rfl⟩, rfl⟩))
  go_ret2
  exact ⟨⟨_, _, hp, rfl⟩, ((Gr.refl w).alloc _).alloc _⟩
theorem c24 : M 4467570830351532032 * M 4638707616191610880 ≤ M 4499096027743125504 * U := by decide +kernel
theorem c876 : M 4499096027743125504 * M 8660422083433463808 ≤ M 8552335692376571904 * U := by decide +kernel
/-- what Ring comes to, rung by rung -/
def RingR (k a b p : Nat) : Prop := ∃ p1 p2, DirUp (M (uB.getD k 0) * M (sqT.getD k 0)) U p1 ∧ DirUp (M p1 * M a) U p2 ∧ DirUp (M p2 * M b) U p ∧ p1 < 9218868437227405312 ∧ p2 < 9218868437227405312
/-- WHAT Ring TELLS -/
theorem ringP (k : Nat) (s t : Bool) (a b : Nat) (w : World) (hk : k ≤ 14) (ha : a ≤ 8660422083433463808) (hs : s = true → a = 0) (hb : b ≤ 8660422083433463808) (ht : t = true → b = 0) :
    Calls Try.prog 11 #[.int .i64 (k : Int), .float .f64 (W s a), .float .f64 (W t b)] w fun e w' => (∃ p r2, RingR k a b p ∧ DirUp (M p + M 103582791429521408) 1 r2 ∧ e = .returned (.tuple #[.float .f64 (if r2 = 9218868437227405312 then 0 else r2), .int .i64 (if r2 = 9218868437227405312 then 6 else 0)])) ∧ Gr w w' := by
  obtain ⟨u1, u2⟩ := uB_at k hk
  obtain ⟨v1, v2, v3⟩ := p2_at k hk
  obtain ⟨s1, s2, s3⟩ := sq_at k hk
  have hz : ∀ (s : Bool) (r : Nat), r ≤ 8660422083433463808 → (s = true → r = 0) → sizeB (W s r) = true ∧ overB (W s r) = false := fun s r hr hs => by
    refine ⟨?_, by rw [overB_W s r (by omega) hs]; exact decide_eq_false (by omega)⟩
    rw [sizeB_W s r (by omega), decide_eq_true (show r < 9218868437227405312 by omega)]
    cases s
    · rfl
    · rw [hs rfl]; rfl
  have hAB : ∀ j, j < 2 → sizeB (if j = 0 then W s a else W t b) = true ∧ overB (if j = 0 then W s a else W t b) = false := fun j hj => by
    split
    · exact hz s a ha hs
    · exact hz t b hb ht
  refine (ringD k (W s a) (W t b) (fun v => ∃ p r2, RingR k a b p ∧ DirUp (M p + M 103582791429521408) 1 r2 ∧ v = .tuple #[.float .f64 (if r2 = 9218868437227405312 then 0 else r2), .int .i64 (if r2 = 9218868437227405312 then 6 else 0)]) (uB.getD k 0) (p2T.getD k 0) (sqT.getD k 0) w hk (fun w ad hF => refusalD _ _ 2 2 _ w (by omega) (by omega) hF (fun j hj => (hAB j hj).1) (fun j hj => (hAB j hj).2)) (fun w => ldexp_k k hk w) (fun w => sqrt_k k hk w) (fun w => ?_) (fun w ad hF => ?_)).mono ?_
  · have := units26 (16 * (k + 1)) k (uB.getD k 0) w (by omega) hk u1 (by omega)
    rw [show ((16 * (k + 1) : Nat) : Int) = 16 * ((k : Int) + 1) by omega] at this
    exact this
  · have hP1 : ∀ p1, DirUp (M (uB.getD k 0) * M (sqT.getD k 0)) U p1 → p1 ≤ 4499096027743125504 := fun p1 h => dirUp_le h U_pos (Nat.le_trans (Nat.mul_le_mul (M_le u2) (M_le s3)) c24)
    have hP2 : ∀ p1 p2, p1 ≤ 4499096027743125504 → DirUp (M p1 * M a) U p2 → p2 ≤ 8552335692376571904 := fun p1 p2 h1 h => dirUp_le h U_pos (Nat.le_trans (Nat.mul_le_mul (M_le h1) (M_le ha)) c876)
    refine (bound25 (uB.getD k 0) ad 3 3 _ (fun j => if j = 0 then sqT.getD k 0 else if j = 1 then a else b) w (by omega) hF (fun j hj => ?_) (by omega) (fun j hj q hq => ?_)).mono ?_
    · rcases (show j = 0 ∨ j = 1 ∨ j = 2 by omega) with rfl | rfl | rfl
      · exact ⟨false, rfl, by show sqT.getD k 0 < _; omega, fun h => by cases h⟩
      · exact ⟨s, rfl, by show a < _; omega, hs⟩
      · exact ⟨t, rfl, by show b < _; omega, ht⟩
    · rcases (show j = 0 ∨ j = 1 ∨ j = 2 by omega) with rfl | rfl | rfl
      · have hq : q = uB.getD k 0 := hq
        omega
      · obtain ⟨p0, h0, _, h1⟩ := hq
        have h0 : p0 = uB.getD k 0 := h0
        subst h0
        have := hP1 q h1
        omega
      · obtain ⟨p1, ⟨p0, h0, _, h1⟩, _, h2⟩ := hq
        have h0 : p0 = uB.getD k 0 := h0
        subst h0
        have := hP2 p1 q (hP1 p1 h1) h2
        omega
    · rintro e w' ⟨⟨p, r2, ⟨p2, ⟨p1, ⟨p0, h0, _, h1⟩, g1, h2⟩, g2, h3⟩, h4, rfl⟩, rfl⟩
      have h0 : p0 = uB.getD k 0 := h0
      subst h0
      exact ⟨⟨_, _, ⟨p, r2, ⟨p1, p2, h1, h2, h3, g1, g2⟩, h4, rfl⟩, rfl⟩, rfl⟩
  · rintro e w' ⟨⟨x, y, ⟨p, r2, h1, h2, h3⟩, rfl⟩, hg⟩
    exact ⟨⟨p, r2, h1, h2, by rw [h3]⟩, hg⟩
/-- refusals -/
def NoSize (s : Bool) (r : Nat) : Prop := ¬ (r < 9218868437227405312 ∧ (s = true → r = 0))
theorem noSizeB {s : Bool} {r : Nat} (hr : r < 9223372036854775808) (h : NoSize s r) : sizeB (W s r) = false := by
  rw [sizeB_W s r hr]
  by_cases h1 : r < 9218868437227405312
  · rw [decide_eq_true h1]
    cases s
    · exact absurd ⟨h1, fun h => by cases h⟩ h
    · rw [decide_eq_false (fun h0 => h ⟨h1, fun _ => h0⟩)]; rfl
  · rw [decide_eq_false h1]; rfl
theorem isSizeB {s : Bool} {r : Nat} (hr : r < 9218868437227405312) (h : s = true → r = 0) : sizeB (W s r) = true := by
  rw [sizeB_W s r (by omega), decide_eq_true hr]
  cases s
  · rfl
  · rw [h rfl]; rfl
theorem ringR (o : Int) (s t : Bool) (a b : Nat) (w : World) (ha : a < 9223372036854775808) (hb : b < 9223372036854775808) (h : 0 ≤ o ∧ o ≤ 14) (hz : NoSize s a ∨ NoSize t b) :
    Calls Try.prog 11 #[.int .i64 o, .float .f64 (W s a), .float .f64 (W t b)] w fun e w' => e = .returned (.tuple #[.float .f64 0, .int .i64 5]) ∧ Gr w w' := by
  refine ringE o (W s a) (W t b) 5 w rfl fun w ad hF => ?_
  by_cases h1 : NoSize s a
  · exact refusalB o ad 2 2 0 _ w h (by omega) hF (by omega) (fun j hj => absurd hj (by omega)) (noSizeB ha h1)
  · have h2 : NoSize t b := hz.resolve_left h1
    refine refusalB o ad 2 2 1 _ w h (by omega) hF (by omega) (fun j hj => ?_) (noSizeB hb h2)
    obtain rfl : j = 0 := by omega
    unfold NoSize at h1
    have h3 := Classical.not_not.1 h1
    exact isSizeB h3.1 h3.2
theorem ringO (o : Int) (s t : Bool) (a b : Nat) (w : World) (h : 0 ≤ o ∧ o ≤ 14) (ha : a < 9218868437227405312) (hs : s = true → a = 0) (hb : b < 9218868437227405312) (ht : t = true → b = 0) (hov : 8660422083433463808 < a ∨ 8660422083433463808 < b) :
    Calls Try.prog 11 #[.int .i64 o, .float .f64 (W s a), .float .f64 (W t b)] w fun e w' => e = .returned (.tuple #[.float .f64 0, .int .i64 6]) ∧ Gr w w' := by
  refine ringE o (W s a) (W t b) 6 w rfl fun w ad hF => ?_
  have hz : ∀ j, j < 2 → sizeB (if j = 0 then W s a else W t b) = true := fun j hj => by
    split
    · exact isSizeB ha hs
    · exact isSizeB hb ht
  by_cases h1 : 8660422083433463808 < a
  · refine refusalC o ad 2 2 0 _ w h (by omega) hF (by omega) hz (fun j hj => absurd hj (by omega)) ?_
    show overB (W s a) = true
    rw [overB_W s a (by omega) hs, decide_eq_true h1]
  · refine refusalC o ad 2 2 1 _ w h (by omega) hF (by omega) hz (fun j hj => ?_) ?_
    · obtain rfl : j = 0 := by omega
      show overB (W s a) = false
      rw [overB_W s a (by omega) hs, decide_eq_false h1]
    · show overB (W t b) = true
      rw [overB_W t b (by omega) ht, decide_eq_true (by omega)]
theorem ringA (o : Int) (x y : Nat) (w : World) (h : ¬ (0 ≤ o ∧ o ≤ 14)) :
    Calls Try.prog 11 #[.int .i64 o, .float .f64 x, .float .f64 y] w fun e w' => e = .returned (.tuple #[.float .f64 0, .int .i64 2]) ∧ Gr w w' :=
  ringE o x y 2 w rfl fun w ad hF => refusalA o ad 2 2 w h
end Go.Proofs.Ytcgbdpgfpickaaa.Fl
namespace Go.Proofs.Ytcgbdpgfpickaaa
set_option linter.unusedVariables false

/-! DIVISION: one digit, guessed and set right -/
theorem dig_out {q r y1 y0 u u0 : Nat} (h : q * y1 + r = u) (hq : (u * 4294967296 + u0) / (y1 * 4294967296 + y0) ≤ q) (hy : 0 < y1) (hc : q * y0 ≤ 4294967296 * r + u0) : q = (u * 4294967296 + u0) / (y1 * 4294967296 + y0) := by
  refine Nat.le_antisymm ((Nat.le_div_iff_mul_le (by omega)).2 ?_) hq
  rw [Nat.mul_add, ← Nat.mul_assoc, ← h]
  generalize q * y1 = A at *
  generalize q * y0 = C at *
  omega
theorem dig_more {q r y1 y0 u u0 : Nat} (h : q * y1 + r = u) (hy : 0 < y1) (hlt : u < y1 * 4294967296 + y0) (h0 : u0 < 4294967296) (hc : 4294967296 ≤ q ∨ 4294967296 * r + u0 < q * y0) : (u * 4294967296 + u0) / (y1 * 4294967296 + y0) < q := by
  refine (Nat.div_lt_iff_lt_mul (by omega)).2 ?_
  rcases hc with hc | hc
  · have := Nat.mul_le_mul hc hlt
    generalize q * (y1 * 4294967296 + y0) = A at *
    omega
  · rw [Nat.mul_add, ← Nat.mul_assoc, ← h]
    generalize q * y1 = A at *
    generalize q * y0 = C at *
    omega
theorem dig_break {q r y1 y0 u u0 : Nat} (h : q * y1 + r = u) (hq : (u * 4294967296 + u0) / (y1 * 4294967296 + y0) ≤ q) (hy : 0 < y1) (hb : q ≤ 4294967296) (hr : 4294967296 ≤ r) (h0 : y0 < 4294967296) : q = (u * 4294967296 + u0) / (y1 * 4294967296 + y0) := by
  refine dig_out h hq hy ?_
  have := Nat.mul_le_mul hb (show y0 ≤ 4294967295 by omega)
  omega
theorem dig_first {u y1 y0 : Nat} (h1 : 2147483648 ≤ y1) (h0 : y0 < 4294967296) (hu : u < y1 * 4294967296 + y0) : u / y1 ≤ 4294967297 := by
  have h2 : 0 < y1 := by omega
  have : u / y1 < 4294967298 := (Nat.div_lt_iff_lt_mul h2).2 (by omega)
  omega
theorem dig_start {u u0 y1 y0 : Nat} (h1 : 0 < y1) (h0 : u0 < 4294967296) : (u * 4294967296 + u0) / (y1 * 4294967296 + y0) ≤ u / y1 := by
  have h2 : (u * 4294967296 + u0) / (y1 * 4294967296 + y0) ≤ (u * 4294967296 + u0) / (y1 * 4294967296) := Nat.div_le_div_left (by omega) (by omega)
  rw [Nat.mul_comm y1 4294967296] at h2 ⊢
  rw [← Nat.div_div_eq_div_mul, show (u * 4294967296 + u0) / 4294967296 = u by omega] at h2
  exact h2
/-- both digits -/
theorem div_whole {N y s H u1 u0 q1 r1 q0 r0 : Nat} (hN : N * 2 ^ s = (H * 4294967296 + u1) * 4294967296 + u0) (y0 : 0 < y) (h1 : q1 = (H * 4294967296 + u1) / (y * 2 ^ s)) (h2 : r1 = (H * 4294967296 + u1) % (y * 2 ^ s)) (h3 : q0 = (r1 * 4294967296 + u0) / (y * 2 ^ s)) (h4 : r0 = (r1 * 4294967296 + u0) % (y * 2 ^ s)) :
    q1 * 4294967296 + q0 = N / y ∧ r0 / 2 ^ s = N % y := by
  have hs : 0 < 2 ^ s := Nat.two_pow_pos s
  have hY : 0 < y * 2 ^ s := Nat.mul_pos y0 hs
  have e1 := Nat.div_add_mod (H * 4294967296 + u1) (y * 2 ^ s)
  have e2 := Nat.div_add_mod (r1 * 4294967296 + u0) (y * 2 ^ s)
  rw [← h1, ← h2] at e1
  rw [← h3, ← h4] at e2
  have l2 : r0 < y * 2 ^ s := h4 ▸ Nat.mod_lt _ hY
  have key : N * 2 ^ s = ((q1 * 4294967296 + q0) * y) * 2 ^ s + r0 := by
    rw [hN, ← e1]
    have : (q1 * 4294967296 + q0) * y * 2 ^ s = y * 2 ^ s * q1 * 4294967296 + y * 2 ^ s * q0 := by
      rw [Nat.mul_assoc, Nat.add_mul, Nat.mul_comm q0, Nat.mul_right_comm, Nat.mul_comm q1]
    rw [this]
    generalize y * 2 ^ s * q1 = A at *
    generalize y * 2 ^ s * q0 = C at *
    omega
  clear e1 e2 h1 h2 h3 h4 hN
  obtain ⟨Q, hQ⟩ : ∃ Q, Q = q1 * 4294967296 + q0 := ⟨_, rfl⟩
  rw [← hQ] at key ⊢
  clear hQ
  have hle : Q * y ≤ N := by
    refine Nat.le_of_mul_le_mul_right (c := 2 ^ s) ?_ hs
    omega
  obtain ⟨R, rfl⟩ := Nat.exists_eq_add_of_le hle
  have e3 : r0 = R * 2 ^ s := by rw [Nat.add_mul] at key; omega
  have e4 : R < y := by
    rw [e3] at l2
    exact Nat.lt_of_mul_lt_mul_right l2
  constructor
  · rw [Nat.mul_comm, Nat.mul_add_div y0, Nat.div_eq_of_lt e4, Nat.add_zero]
  · rw [e3, Nat.mul_div_cancel _ hs, Nat.mul_comm, Nat.mul_add_mod, Nat.mod_eq_of_lt e4]
/-- the shifted number's upper half: no bit is lost -/
theorem norm_lt {y : Nat} (h : y < 18446744073709551616) (h0 : 0 < y) : y * 2 ^ (64 - bl y) < 18446744073709551616 ∧ 9223372036854775808 ≤ y * 2 ^ (64 - bl y) := by
  have hb : bl y ≤ 64 := bl_le_of_lt h
  have e : (2 : Nat) ^ bl y * 2 ^ (64 - bl y) = 18446744073709551616 := by rw [← Nat.pow_add, show bl y + (64 - bl y) = 64 by omega]
  have h1 : y * 2 ^ (64 - bl y) < 2 ^ bl y * 2 ^ (64 - bl y) := Nat.mul_lt_mul_of_pos_right (bl_lt y) (Nat.two_pow_pos _)
  have h2 : 2 ^ bl y * 2 ^ (64 - bl y) ≤ 2 * y * 2 ^ (64 - bl y) := Nat.mul_le_mul_right _ (bl_le h0)
  rw [Nat.mul_assoc] at h2
  generalize y * 2 ^ (64 - bl y) = A at *
  generalize 2 ^ bl y * 2 ^ (64 - bl y) = C at *
  omega

/-! rows of digits -/
theorem nv_drop_at (B : Nat) {xs : List Nat} {i : Nat} (h : i < xs.length) : nv B (xs.drop i) = xs.getD i 0 + B * nv B (xs.drop (i + 1)) := by
  rw [List.drop_eq_getElem_cons h, nv, List.getD_eq_getElem?_getD, List.getElem?_eq_getElem h]
  rfl
theorem nv_drop_set (B : Nat) {zs : List Nat} {i v : Nat} (h : i < zs.length) : nv B ((zs.set i v).drop i) = v + B * nv B (zs.drop (i + 1)) := by
  rw [nv_drop_at B (by rw [List.length_set]; exact h)]
  congr 1
  · rw [List.getD_eq_getElem?_getD, List.getElem?_set_self h]; rfl
  · rw [List.drop_set_of_lt (by omega)]
theorem sq_step {B d X x : Nat} (hd : 0 < d) : (x + B * X) / d = (X % d * B + x) / d + B * (X / d) ∧ (x + B * X) % d = (X % d * B + x) % d := by
  have e : x + B * X = (X % d * B + x) + d * (B * (X / d)) := by
    have := Nat.div_add_mod X d
    calc x + B * X = x + B * (d * (X / d) + X % d) := by rw [this]
      _ = _ := by rw [Nat.mul_add, Nat.mul_left_comm, Nat.mul_comm B (X % d)]; omega
  constructor
  · rw [e, Nat.add_mul_div_left _ _ hd]
  · rw [e, Nat.add_mul_mod_self_left]
theorem sq_lt {B d r x : Nat} (hr : r < d) (hx : x < B) : (r * B + x) / d < B := by
  refine (Nat.div_lt_iff_lt_mul (by omega)).2 ?_
  have := Nat.mul_le_mul_right B (show r + 1 ≤ d by omega)
  rw [Nat.add_mul, Nat.one_mul, Nat.mul_comm d] at this
  omega
theorem nv_ge (B : Nat) {xs : List Nat} {i : Nat} (h : i < xs.length) : B ^ i * xs.getD i 0 ≤ nv B xs := by
  have h1 := nv_take_succ B xs i
  have h2 := nv_append B (xs.take (i + 1)) (xs.drop (i + 1))
  rw [List.take_append_drop] at h2
  omega
theorem upper_zero {B m : Nat} (hB : 0 < B) {xs : List Nat} (h : nv B xs < B ^ m) (i : Nat) (hi : m ≤ i) : xs.getD i 0 = 0 := by
  by_cases hl : i < xs.length
  · refine Nat.eq_zero_of_not_pos fun hp => ?_
    have h1 := nv_ge B hl
    have h2 : B ^ m ≤ B ^ i := Nat.pow_le_pow_right hB hi
    have h3 : B ^ i * 1 ≤ B ^ i * xs.getD i 0 := Nat.mul_le_mul_left _ hp
    omega
  · rw [List.getD_eq_getElem?_getD, List.getElem?_eq_none (by omega)]; rfl
theorem upper_lt {B m : Nat} {xs : List Nat} (hx : ∀ x ∈ xs, x < B) (h : ∀ i, m ≤ i → xs.getD i 0 = 0) (hm : m ≤ xs.length) : nv B xs < B ^ m := by
  rw [← nv_take_zeros B xs m (fun i h1 _ => h i h1)]
  have := nv_lt B (xs.take m) (fun x hx' => hx x (List.mem_of_mem_take hx'))
  rwa [List.length_take, Nat.min_eq_left hm] at this
end Go.Proofs.Ytcgbdpgfpickaaa
