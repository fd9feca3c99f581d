import Derived.Test.YtnmdnhmfmahjaaaGreatDoorM17
namespace Go.Proofs.YtnmdnhmfmahjaaaGreatDoor
open Go.RowKit
set_option linter.unusedVariables false

theorem sameDyadS (s : Bool) (ad1 ad2 : Option Addr) (n1 n2 c1 c2 : Nat) (e : Int) (X : Nat) (w : World) (hx : Lim w ad1 n1 c1 18446744073709551616 X) (hy : Lim w ad2 n2 c2 18446744073709551616 X) :
    Calls Tryz.prog 44 #[.agg #[.bool s, .slice ad1 n1 c1, .int .i64 e], .agg #[.bool s, .slice ad2 n2 c2, .int .i64 e]] w fun r w' => r = .returned (.bool true) ∧ Gr w w' := by
  obtain ⟨xs, rx, gx⟩ := hx
  obtain ⟨ys, ry, gy⟩ := hy
  obtain rfl := gx.unique (by omega) gy
  obtain rfl : n1 = n2 := rx.len.symm.trans ry.len
  have H39 : Hid (∀ w1, Gr w w1 → Calls Tryz.prog 82 #[.slice ad1 n1 c1, .slice ad2 n1 c2] w1 fun r w' => r = .returned (.bool true) ∧ Gr w1 w') := fun w1 g => sameLimbs39 ad1 ad2 n1 c1 c2 xs w1 (rx.gr g) (ry.gr g)
  clear rx ry gx gy
  have TB : Hid _ := two_blocks w (.bool s) (.slice ad1 n1 c1) (.int .i64 e) (.bool s) (.slice ad2 n1 c2) (.int .i64 e) _ rfl
  go_enter Tryz.func44, Tryz.ntmps44
  go_wp2_with (go_at_call 82; (with_reducible refine (H39.out _ (gr2 _ _)).mono ?_); rintro r w1 ⟨rfl, g1⟩; have k := keep6 g1 TB.out; have k2 := k.1.2.2.1; have k5 := k.1.2.2.2.2.2)
  go_ret
  exact ⟨rfl, k.2⟩
set_option maxHeartbeats 1600000 in
/-- is, of two answers that are the same -/
theorem isS (s : Bool) (ad1 ad2 : Option Addr) (n1 n2 c1 c2 : Nat) (e g : Int) (X : Nat) (w : World) (hx : Lim w ad1 n1 c1 18446744073709551616 X) (hy : Lim w ad2 n2 c2 18446744073709551616 X) :
    Calls Tryz.prog 12 #[.agg #[.bool s, .slice ad1 n1 c1, .int .i64 e], .int .i64 g, .agg #[.bool s, .slice ad2 n2 c2, .int .i64 e], .int .i64 g] w fun r w' => r = .returned (.bool true) ∧ Gr w w' := by
  have H18 : Hid (∀ w1, Gr w w1 → Calls Tryz.prog 44 #[.agg #[.bool s, .slice ad1 n1 c1, .int .i64 e], .agg #[.bool s, .slice ad2 n2 c2, .int .i64 e]] w1 fun r w' => r = .returned (.bool true) ∧ Gr w1 w') := fun w1 g => sameDyadS s ad1 ad2 n1 n2 c1 c2 e X w1 (hx.gr g) (hy.gr g)
  clear hx hy
  go_enter Tryz.func12, Tryz.ntmps12
  go_wp2_with (first | (go_at_call 44; (with_reducible refine (H18.out _ (gr2 _ _)).mono ?_); rintro r w1 ⟨rfl, g1⟩))
  go_ret
  exact ⟨rfl, (gr2 _ _).trans g1⟩
def greatB (n : Nat) (e : Int) : Bool := decide (64 < n ∨ (20000 < e ∧ e < 524288) ∨ (e < -20000 ∧ -524288 < e))
set_option maxHeartbeats 1600000 in
theorem great4 (s : Bool) (ad : Option Addr) (n cap : Nat) (e : Int) (w : World) :
    Calls Tryz.prog 5 #[.agg #[.bool s, .slice ad n cap, .int .i64 e]] w fun r w' => r = .returned (.bool (greatB n e)) ∧ Gr w w' := by
  by_cases h1 : 64 < n
  · rw [show greatB n e = true by simp [greatB]; omega]
    have i1 : (64 : Int) < n := by omega
    go_enter Tryz.func5, Tryz.ntmps5
    go_wp2
    go_ret
    exact ⟨rfl, (Gr.refl w).alloc _⟩
  · have i1 : ¬ (64 : Int) < n := by omega
    by_cases h2 : 20000 < e
    · have h4 : ¬ e < -20000 := by omega
      by_cases h3 : e < 524288
      · rw [show greatB n e = true by simp [greatB]; omega]
        go_enter Tryz.func5, Tryz.ntmps5
        go_wp2
        go_ret
        exact ⟨rfl, (Gr.refl w).alloc _⟩
      · rw [show greatB n e = false by simp [greatB]; omega]
        go_enter Tryz.func5, Tryz.ntmps5
        go_wp2
        go_ret
        exact ⟨rfl, (Gr.refl w).alloc _⟩
    · by_cases h4 : e < -20000
      · by_cases h3 : -524288 < e
        · rw [show greatB n e = true by simp [greatB]; omega]
          go_enter Tryz.func5, Tryz.ntmps5
          go_wp2
          go_ret
          exact ⟨rfl, (Gr.refl w).alloc _⟩
        · rw [show greatB n e = false by simp [greatB]; omega]
          go_enter Tryz.func5, Tryz.ntmps5
          go_wp2
          go_ret
          exact ⟨rfl, (Gr.refl w).alloc _⟩
      · rw [show greatB n e = false by simp [greatB]; omega]
        go_enter Tryz.func5, Tryz.ntmps5
        go_wp2
        go_ret
        exact ⟨rfl, (Gr.refl w).alloc _⟩
set_option maxHeartbeats 1600000 in
theorem cmp17A1 (s t : Bool) (ad1 ad2 : Option Addr) (n1 n2 c1 c2 : Nat) (e f : Int) (w : World)
    (R1 : Hid (∀ w1, Gr w w1 → Calls Tryz.prog 27 #[.agg #[.bool s, .slice ad1 n1 c1, .int .i64 e]] w1 fun r w' => r = .returned (.bool false) ∧ Gr w1 w')) :
    Calls Tryz.prog 26 #[.agg #[.bool s, .slice ad1 n1 c1, .int .i64 e], .agg #[.bool t, .slice ad2 n2 c2, .int .i64 f]] w fun r w' => r = .returned (.tuple #[.int .i64 0, .int .i64 2]) ∧ Gr w w' := by
  have TB : Hid _ := two_blocks w (.bool s) (.slice ad1 n1 c1) (.int .i64 e) (.bool t) (.slice ad2 n2 c2) (.int .i64 f) _ rfl
  go_enter Tryz.func26, Tryz.ntmps26
  go_wp2_with (go_at_call 27; (with_reducible refine (R1.out _ (gr2 _ _)).mono ?_); rintro r w1 ⟨rfl, g1⟩; have k1 := keep6 g1 TB.out)
  refine bodyPost_ret (v := .tuple #[.int .i64 0, .int .i64 2]) (by simp [results, Tryz.results26, go_sem]) rfl ⟨rfl, k1.2⟩
set_option maxHeartbeats 1600000 in
theorem cmp17A2 (s t : Bool) (ad1 ad2 : Option Addr) (n1 n2 c1 c2 : Nat) (e f : Int) (w : World)
    (R1 : Hid (∀ w1, Gr w w1 → Calls Tryz.prog 27 #[.agg #[.bool s, .slice ad1 n1 c1, .int .i64 e]] w1 fun r w' => r = .returned (.bool true) ∧ Gr w1 w'))
    (R2 : Hid (∀ w1, Gr w w1 → Calls Tryz.prog 27 #[.agg #[.bool t, .slice ad2 n2 c2, .int .i64 f]] w1 fun r w' => r = .returned (.bool false) ∧ Gr w1 w')) :
    Calls Tryz.prog 26 #[.agg #[.bool s, .slice ad1 n1 c1, .int .i64 e], .agg #[.bool t, .slice ad2 n2 c2, .int .i64 f]] w fun r w' => r = .returned (.tuple #[.int .i64 0, .int .i64 2]) ∧ Gr w w' := by
  have TB : Hid _ := two_blocks w (.bool s) (.slice ad1 n1 c1) (.int .i64 e) (.bool t) (.slice ad2 n2 c2) (.int .i64 f) _ rfl
  have tok : True := trivial
  go_enter Tryz.func26, Tryz.ntmps26
  go_wp2_with (first | (go_at_call 27; have _t := tok; (with_reducible refine (R1.out _ (gr2 _ _)).mono ?_); rintro r w1 ⟨rfl, g1⟩; clear tok; have k1 := keep6 g1 TB.out; have k13 := k1.1.2.2.2.1; have k14 := k1.1.2.2.2.2.1; have k15 := k1.1.2.2.2.2.2) | (go_at_call 27; (with_reducible refine (R2.out _ k1.2).mono ?_); rintro r w2 ⟨rfl, g2⟩; have k2 := keep6 g2 k1; clear k13 k14 k15))
  refine bodyPost_ret (v := .tuple #[.int .i64 0, .int .i64 2]) (by simp [results, Tryz.results26, go_sem]) rfl ⟨rfl, k2.2⟩
end Go.Proofs.YtnmdnhmfmahjaaaGreatDoor
namespace Go.Proofs.YtnmdnhmfmahjaaaGreatDoor
open Go.RowKit
set_option linter.unusedVariables false

/-- told: that sign, size, power and error -/
def Told (S : Bool) (X : Nat) (E G : Int) (w1 : World) (r : Ending) (w' : World) : Prop := ∃ ad n cap, r = .returned (.tuple #[.agg #[.bool S, .slice ad n cap, .int .i64 E], .int .i64 G]) ∧ Lim w' ad n cap 18446744073709551616 X ∧ Gr w1 w'
/-- both tell the same, in every grown world -/
def Both (f g : Nat) (args : Array Value) (w : World) : Prop := ∃ S X E G, (∀ w1, Gr w w1 → Calls Tryz.prog f args w1 (Told S X E G w1)) ∧ (∀ w1, Gr w w1 → Calls Tryz.prog g args w1 (Told S X E G w1))
theorem both_set {f g : Nat} {args : Array Value} {w : World} (V : Int) (h1 : ∀ w1, Gr w w1 → Calls Tryz.prog f args w1 fun r w' => SetV w' r V ∧ Gr w1 w') (h2 : ∀ w1, Gr w w1 → Calls Tryz.prog g args w1 fun r w' => SetV w' r V ∧ Gr w1 w') : Both f g args w := by
  obtain ⟨S, X, E, G, h⟩ := setv_ans V
  refine ⟨S, X, E, G, fun w1 g1 => (h1 w1 g1).mono ?_, fun w1 g1 => (h2 w1 g1).mono ?_⟩
  · rintro r w' ⟨hs, hg⟩
    obtain ⟨s, ad, n, cap, e, g, rfl, hA⟩ := h _ _ hs
    obtain ⟨rfl, rfl, rfl, hl⟩ := hA
    exact ⟨ad, n, cap, rfl, hl, hg⟩
  · rintro r w' ⟨hs, hg⟩
    obtain ⟨s, ad, n, cap, e, g, rfl, hA⟩ := h _ _ hs
    obtain ⟨rfl, rfl, rfl, hl⟩ := hA
    exact ⟨ad, n, cap, rfl, hl, hg⟩
theorem both_no {f g : Nat} {args : Array Value} {w : World} (G : Int) (h1 : ∀ w1, Gr w w1 → Calls Tryz.prog f args w1 fun r w' => r = .returned (.tuple #[zeroD, .int .i64 G]) ∧ Gr w1 w') (h2 : ∀ w1, Gr w w1 → Calls Tryz.prog g args w1 fun r w' => r = .returned (.tuple #[zeroD, .int .i64 G]) ∧ Gr w1 w') : Both f g args w := by
  refine ⟨false, 0, 0, G, fun w1 g1 => (h1 w1 g1).mono ?_, fun w1 g1 => (h2 w1 g1).mono ?_⟩
  · rintro r w' ⟨rfl, hg⟩
    exact ⟨none, 0, 0, rfl, nil_lim _, hg⟩
  · rintro r w' ⟨rfl, hg⟩
    exact ⟨none, 0, 0, rfl, nil_lim _, hg⟩
theorem r35t (s : Bool) (ad : Option Addr) (n cap : Nat) (e : Int) (xs : List Nat) (w : World) (r1 : Row w ad n cap xs) (h1 : ∀ x ∈ xs, x < 18446744073709551616) (hq : RightD s xs e) : Hid (∀ w1, Gr w w1 → Calls Tryz.prog 27 #[.agg #[.bool s, .slice ad n cap, .int .i64 e]] w1 fun r w' => r = .returned (.bool true) ∧ Gr w1 w') := by
  intro w1 g
  have := right26 s ad n cap e xs w1 (r1.gr g) h1
  rw [rightB_t hq] at this
  exact this
theorem r35f (s : Bool) (ad : Option Addr) (n cap : Nat) (e : Int) (xs : List Nat) (w : World) (r1 : Row w ad n cap xs) (h1 : ∀ x ∈ xs, x < 18446744073709551616) (hq : ¬ RightD s xs e) : Hid (∀ w1, Gr w w1 → Calls Tryz.prog 27 #[.agg #[.bool s, .slice ad n cap, .int .i64 e]] w1 fun r w' => r = .returned (.bool false) ∧ Gr w1 w') := by
  intro w1 g
  have := right26 s ad n cap e xs w1 (r1.gr g) h1
  rw [rightB_f hq] at this
  exact this
theorem r25t (s : Bool) (ad : Option Addr) (n cap : Nat) (e : Int) (xs : List Nat) (w : World) (r1 : Row w ad n cap xs) (h1 : ∀ x ∈ xs, x < 18446744073709551616) (hq : RightD s xs e) : Hid (∀ w1, Gr w w1 → Calls Tryz.prog 32 #[.agg #[.bool s, .slice ad n cap, .int .i64 e]] w1 fun r w' => r = .returned (.bool true) ∧ Gr w1 w') := by
  intro w1 g
  have := right25 s ad n cap e xs w1 (r1.gr g) h1
  rw [rightB_t hq] at this
  exact this
theorem r25f (s : Bool) (ad : Option Addr) (n cap : Nat) (e : Int) (xs : List Nat) (w : World) (r1 : Row w ad n cap xs) (h1 : ∀ x ∈ xs, x < 18446744073709551616) (hq : ¬ RightD s xs e) : Hid (∀ w1, Gr w w1 → Calls Tryz.prog 32 #[.agg #[.bool s, .slice ad n cap, .int .i64 e]] w1 fun r w' => r = .returned (.bool false) ∧ Gr w1 w') := by
  intro w1 g
  have := right25 s ad n cap e xs w1 (r1.gr g) h1
  rw [rightB_f hq] at this
  exact this
theorem settled_far {w : World} {r : Ending} {s : Bool} {q : Nat} {E : Int} (h : Settled w r s (2 * q + 1) E) (hE : E < -1048576 ∨ 1048576 < E) : r = .returned (.tuple #[zeroD, .int .i64 3]) := by
  unfold Settled at h
  rcases h with ⟨h, _⟩ | ⟨t, q', ad, n, cap, hx, hF, _⟩ | ⟨_, _, _, _, h⟩
  · omega
  · have := odd_unique (t := 0) (q := q) (t' := t) (q' := q') (by rw [Nat.pow_zero, Nat.one_mul]; exact hx)
    have h2 := hF.2
    omega
  · exact h
end Go.Proofs.YtnmdnhmfmahjaaaGreatDoor
