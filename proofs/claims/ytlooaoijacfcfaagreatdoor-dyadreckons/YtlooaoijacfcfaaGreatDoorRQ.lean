import Derived.Test.YtlooaoijacfcfaaGreatDoorRP
namespace Go.Proofs.YtlooaoijacfcfaaGreatDoor
open Go.RowKit
set_option linter.unusedVariables false

/-- told: that sign, size, power and error -/
def Told (S : Bool) (X : Nat) (E G : Int) (w1 : World) (r : Ending) (w' : World) : Prop := ∃ ad n cap, r = .returned (.tuple #[.agg #[.bool S, .slice ad n cap, .int .i64 E], .int .i64 G]) ∧ Lim w' ad n cap 18446744073709551616 X ∧ Gr w1 w'
/-- both tell the same, in every grown world -/
def Both (f g : Nat) (args : Array Value) (w : World) : Prop := ∃ S X E G, (∀ w1, Gr w w1 → Calls Tryz.prog f args w1 (Told S X E G w1)) ∧ (∀ w1, Gr w w1 → Calls Tryz.prog g args w1 (Told S X E G w1))
theorem both_set {f g : Nat} {args : Array Value} {w : World} (V : Int) (h1 : ∀ w1, Gr w w1 → Calls Tryz.prog f args w1 fun r w' => SetV w' r V ∧ Gr w1 w') (h2 : ∀ w1, Gr w w1 → Calls Tryz.prog g args w1 fun r w' => SetV w' r V ∧ Gr w1 w') : Both f g args w := by
  obtain ⟨S, X, E, G, h⟩ := setv_ans V
  refine ⟨S, X, E, G, fun w1 g1 => (h1 w1 g1).mono ?_, fun w1 g1 => (h2 w1 g1).mono ?_⟩
  · rintro r w' ⟨hs, hg⟩
    obtain ⟨s, ad, n, cap, e, g, rfl, hA⟩ := h _ _ hs
    obtain ⟨rfl, rfl, rfl, hl⟩ := hA
    exact ⟨ad, n, cap, rfl, hl, hg⟩
  · rintro r w' ⟨hs, hg⟩
    obtain ⟨s, ad, n, cap, e, g, rfl, hA⟩ := h _ _ hs
    obtain ⟨rfl, rfl, rfl, hl⟩ := hA
    exact ⟨ad, n, cap, rfl, hl, hg⟩
theorem both_no {f g : Nat} {args : Array Value} {w : World} (G : Int) (h1 : ∀ w1, Gr w w1 → Calls Tryz.prog f args w1 fun r w' => r = .returned (.tuple #[zeroD, .int .i64 G]) ∧ Gr w1 w') (h2 : ∀ w1, Gr w w1 → Calls Tryz.prog g args w1 fun r w' => r = .returned (.tuple #[zeroD, .int .i64 G]) ∧ Gr w1 w') : Both f g args w := by
  refine ⟨false, 0, 0, G, fun w1 g1 => (h1 w1 g1).mono ?_, fun w1 g1 => (h2 w1 g1).mono ?_⟩
  · rintro r w' ⟨rfl, hg⟩
    exact ⟨none, 0, 0, rfl, nil_lim _, hg⟩
  · rintro r w' ⟨rfl, hg⟩
    exact ⟨none, 0, 0, rfl, nil_lim _, hg⟩
theorem r35t (s : Bool) (ad : Option Addr) (n cap : Nat) (e : Int) (xs : List Nat) (w : World) (r1 : Row w ad n cap xs) (h1 : ∀ x ∈ xs, x < 18446744073709551616) (hq : RightD s xs e) : Hid (∀ w1, Gr w w1 → Calls Tryz.prog 35 #[.agg #[.bool s, .slice ad n cap, .int .i64 e]] w1 fun r w' => r = .returned (.bool true) ∧ Gr w1 w') := by
  intro w1 g
  have := right26 s ad n cap e xs w1 (r1.gr g) h1
  rw [rightB_t hq] at this
  exact this
theorem r35f (s : Bool) (ad : Option Addr) (n cap : Nat) (e : Int) (xs : List Nat) (w : World) (r1 : Row w ad n cap xs) (h1 : ∀ x ∈ xs, x < 18446744073709551616) (hq : ¬ RightD s xs e) : Hid (∀ w1, Gr w w1 → Calls Tryz.prog 35 #[.agg #[.bool s, .slice ad n cap, .int .i64 e]] w1 fun r w' => r = .returned (.bool false) ∧ Gr w1 w') := by
  intro w1 g
  have := right26 s ad n cap e xs w1 (r1.gr g) h1
  rw [rightB_f hq] at this
  exact this
theorem r25t (s : Bool) (ad : Option Addr) (n cap : Nat) (e : Int) (xs : List Nat) (w : World) (r1 : Row w ad n cap xs) (h1 : ∀ x ∈ xs, x < 18446744073709551616) (hq : RightD s xs e) : Hid (∀ w1, Gr w w1 → Calls Tryz.prog 25 #[.agg #[.bool s, .slice ad n cap, .int .i64 e]] w1 fun r w' => r = .returned (.bool true) ∧ Gr w1 w') := by
  intro w1 g
  have := right25 s ad n cap e xs w1 (r1.gr g) h1
  rw [rightB_t hq] at this
  exact this
theorem r25f (s : Bool) (ad : Option Addr) (n cap : Nat) (e : Int) (xs : List Nat) (w : World) (r1 : Row w ad n cap xs) (h1 : ∀ x ∈ xs, x < 18446744073709551616) (hq : ¬ RightD s xs e) : Hid (∀ w1, Gr w w1 → Calls Tryz.prog 25 #[.agg #[.bool s, .slice ad n cap, .int .i64 e]] w1 fun r w' => r = .returned (.bool false) ∧ Gr w1 w') := by
  intro w1 g
  have := right25 s ad n cap e xs w1 (r1.gr g) h1
  rw [rightB_f hq] at this
  exact this
theorem both_add (s t : Bool) (ad1 ad2 : Option Addr) (n1 n2 c1 c2 : Nat) (e f : Int) (xs ys : List Nat) (w : World) (r1 : Row w ad1 n1 c1 xs) (r2 : Row w ad2 n2 c2 ys) (h1 : ∀ x ∈ xs, x < 18446744073709551616) (h2 : ∀ x ∈ ys, x < 18446744073709551616) (hT : TabAt 1 Lib.deBruijn64tab w) : Both 6 7 #[.agg #[.bool s, .slice ad1 n1 c1, .int .i64 e], .agg #[.bool t, .slice ad2 n2 c2, .int .i64 f]] w := by
  by_cases q1 : RightD s xs e
  · by_cases q2 : RightD t ys f
    · have dx := dyAt_of r1 h1 q1
      have dy := dyAt_of r2 h2 q2
      exact both_set (sv KK s (nv 18446744073709551616 xs) e + sv KK t (nv 18446744073709551616 ys) f) (fun w1 g => addS s t ad1 ad2 n1 n2 c1 c2 e f _ _ w1 (dx.gr g) (dy.gr g) (tab_gr hT g)) (fun w1 g => ref7 s t ad1 ad2 n1 n2 c1 c2 e f _ _ w1 (dx.gr g) (dy.gr g))
    · exact both_no 2 (fun w1 g => op6A2 s t ad1 ad2 n1 n2 c1 c2 e f w1 (r35t s ad1 n1 c1 e xs w1 (r1.gr g) h1 q1) (r35f t ad2 n2 c2 f ys w1 (r2.gr g) h2 q2)) (fun w1 g => raddA2 s t ad1 ad2 n1 n2 c1 c2 e f w1 (r25t s ad1 n1 c1 e xs w1 (r1.gr g) h1 q1) (r25f t ad2 n2 c2 f ys w1 (r2.gr g) h2 q2))
  · exact both_no 2 (fun w1 g => op6A1 s t ad1 ad2 n1 n2 c1 c2 e f w1 (r35f s ad1 n1 c1 e xs w1 (r1.gr g) h1 q1)) (fun w1 g => raddA1 s t ad1 ad2 n1 n2 c1 c2 e f w1 (r25f s ad1 n1 c1 e xs w1 (r1.gr g) h1 q1))
theorem both_sub (s t : Bool) (ad1 ad2 : Option Addr) (n1 n2 c1 c2 : Nat) (e f : Int) (xs ys : List Nat) (w : World) (r1 : Row w ad1 n1 c1 xs) (r2 : Row w ad2 n2 c2 ys) (h1 : ∀ x ∈ xs, x < 18446744073709551616) (h2 : ∀ x ∈ ys, x < 18446744073709551616) (hT : TabAt 1 Lib.deBruijn64tab w) : Both 8 9 #[.agg #[.bool s, .slice ad1 n1 c1, .int .i64 e], .agg #[.bool t, .slice ad2 n2 c2, .int .i64 f]] w := by
  by_cases q1 : RightD s xs e
  · by_cases q2 : RightD t ys f
    · have dx := dyAt_of r1 h1 q1
      have dy := dyAt_of r2 h2 q2
      exact both_set (sv KK s (nv 18446744073709551616 xs) e - sv KK t (nv 18446744073709551616 ys) f) (fun w1 g => subS s t ad1 ad2 n1 n2 c1 c2 e f _ _ w1 (dx.gr g) (dy.gr g) (tab_gr hT g)) (fun w1 g => ref9 s t ad1 ad2 n1 n2 c1 c2 e f _ _ w1 (dx.gr g) (dy.gr g))
    · exact both_no 2 (fun w1 g => op8A2 s t ad1 ad2 n1 n2 c1 c2 e f w1 (r35t s ad1 n1 c1 e xs w1 (r1.gr g) h1 q1) (r35f t ad2 n2 c2 f ys w1 (r2.gr g) h2 q2)) (fun w1 g => rsubA2 s t ad1 ad2 n1 n2 c1 c2 e f w1 (r25t s ad1 n1 c1 e xs w1 (r1.gr g) h1 q1) (r25f t ad2 n2 c2 f ys w1 (r2.gr g) h2 q2))
  · exact both_no 2 (fun w1 g => op8A1 s t ad1 ad2 n1 n2 c1 c2 e f w1 (r35f s ad1 n1 c1 e xs w1 (r1.gr g) h1 q1)) (fun w1 g => rsubA1 s t ad1 ad2 n1 n2 c1 c2 e f w1 (r25f s ad1 n1 c1 e xs w1 (r1.gr g) h1 q1))
theorem both_mul (s t : Bool) (ad1 ad2 : Option Addr) (n1 n2 c1 c2 : Nat) (e f : Int) (xs ys : List Nat) (w : World) (r1 : Row w ad1 n1 c1 xs) (r2 : Row w ad2 n2 c2 ys) (h1 : ∀ x ∈ xs, x < 18446744073709551616) (h2 : ∀ x ∈ ys, x < 18446744073709551616) (hT : TabAt 1 Lib.deBruijn64tab w) : Both 11 12 #[.agg #[.bool s, .slice ad1 n1 c1, .int .i64 e], .agg #[.bool t, .slice ad2 n2 c2, .int .i64 f]] w := by
  by_cases q1 : RightD s xs e
  · by_cases q2 : RightD t ys f
    · have dx := dyAt_of r1 h1 q1
      have dy := dyAt_of r2 h2 q2
      exact both_set (sv KK (s != t) (nv 18446744073709551616 xs * nv 18446744073709551616 ys) (e + f)) (fun w1 g => mulS s t ad1 ad2 n1 n2 c1 c2 e f _ _ w1 (dx.gr g) (dy.gr g) (tab_gr hT g)) (fun w1 g => ref12 s t ad1 ad2 n1 n2 c1 c2 e f _ _ w1 (dx.gr g) (dy.gr g))
    · exact both_no 2 (fun w1 g => op11A2 s t ad1 ad2 n1 n2 c1 c2 e f w1 (r35t s ad1 n1 c1 e xs w1 (r1.gr g) h1 q1) (r35f t ad2 n2 c2 f ys w1 (r2.gr g) h2 q2)) (fun w1 g => rmulA2 s t ad1 ad2 n1 n2 c1 c2 e f w1 (r25t s ad1 n1 c1 e xs w1 (r1.gr g) h1 q1) (r25f t ad2 n2 c2 f ys w1 (r2.gr g) h2 q2))
  · exact both_no 2 (fun w1 g => op11A1 s t ad1 ad2 n1 n2 c1 c2 e f w1 (r35f s ad1 n1 c1 e xs w1 (r1.gr g) h1 q1)) (fun w1 g => rmulA1 s t ad1 ad2 n1 n2 c1 c2 e f w1 (r25f s ad1 n1 c1 e xs w1 (r1.gr g) h1 q1))
theorem both_neg (s : Bool) (ad : Option Addr) (n cap : Nat) (e : Int) (xs : List Nat) (w : World) (r1 : Row w ad n cap xs) (h1 : ∀ x ∈ xs, x < 18446744073709551616) (hT : TabAt 1 Lib.deBruijn64tab w) : Both 13 14 #[.agg #[.bool s, .slice ad n cap, .int .i64 e]] w := by
  by_cases q1 : RightD s xs e
  · have dx := dyAt_of r1 h1 q1
    exact both_set (sv KK (!s) (nv 18446744073709551616 xs) e) (fun w1 g => negS s ad n cap _ e w1 (dx.gr g) (tab_gr hT g)) (fun w1 g => rneg14 s ad n cap _ e w1 (dx.gr g))
  · exact both_no 2 (fun w1 g => neg13A s ad n cap e w1 (r35f s ad n cap e xs w1 (r1.gr g) h1 q1)) (fun w1 g => rneg14A s ad n cap e w1 (r25f s ad n cap e xs w1 (r1.gr g) h1 q1))
theorem settled_far {w : World} {r : Ending} {s : Bool} {q : Nat} {E : Int} (h : Settled w r s (2 * q + 1) E) (hE : E < -1048576 ∨ 1048576 < E) : r = .returned (.tuple #[zeroD, .int .i64 3]) := by
  unfold Settled at h
  rcases h with ⟨h, _⟩ | ⟨t, q', ad, n, cap, hx, hF, _⟩ | ⟨_, _, _, _, h⟩
  · omega
  · have := odd_unique (t := 0) (q := q) (t' := t) (q' := q') (by rw [Nat.pow_zero, Nat.one_mul]; exact hx)
    have h2 := hF.2
    omega
  · exact h
theorem both_scale (s : Bool) (ad : Option Addr) (n cap : Nat) (e : Int) (xs : List Nat) (w : World) (r1 : Row w ad n cap xs) (h1 : ∀ x ∈ xs, x < 18446744073709551616) (p : Int) (hT : TabAt 1 Lib.deBruijn64tab w) : Both 15 16 #[.agg #[.bool s, .slice ad n cap, .int .i64 e], .int .i64 p] w := by
  by_cases q1 : RightD s xs e
  · have dx := dyAt_of r1 h1 q1
    have hl := r1.len
    cases n with
    | zero =>
      obtain rfl := List.eq_nil_of_length_eq_zero hl
      have dx' : DyAt w s ad 0 cap e 0 := dx
      rcases dx'.right with ⟨_, rfl, rfl⟩ | ⟨q, h, _⟩
      · refine ⟨false, 0, 0, 0, fun w1 g => (scale15z false ad 0 cap 0 p w1 (r35t false ad 0 cap 0 [] w1 (r1.gr g) h1 q1)).mono ?_, fun w1 g => (rscale16z false ad cap 0 p w1 (dx'.gr g)).mono ?_⟩
        · rintro r w' ⟨rfl, hg⟩
          exact ⟨none, 0, 0, rfl, nil_lim _, hg⟩
        · rintro r w' ⟨rfl, hl, hg⟩
          exact ⟨ad, 0, cap, rfl, hl, hg⟩
      · omega
    | succ m =>
      have hx : ∃ q, nv 18446744073709551616 xs = 2 * q + 1 := by
        rcases dx.right with ⟨h, _⟩ | ⟨q, h, _⟩
        · obtain ⟨ys, g1, g2⟩ := dx.lim
          rw [h] at g2
          have := (g2.zero_iff (by omega)).2 rfl
          have := g1.len
          omega
        · exact ⟨q, h⟩
      obtain ⟨q, hq⟩ := hx
      have e1 := dx.low
      have e2 := dx.high
      have hkk := KK_eq
      by_cases p1 : p < -2097152
      · refine both_no 3 (fun w1 g => scale15lo s ad m cap e p p1 w1 (r35t s ad (m + 1) cap e xs w1 (r1.gr g) h1 q1)) (fun w1 g => ?_)
        by_cases p2 : p < -1073741824
        · exact rscale16lo s ad m cap e p p2 w1 (r25t s ad (m + 1) cap e xs w1 (r1.gr g) h1 q1)
        · refine (rscale16m s ad m cap _ e p w1 (dx.gr g) (by omega) (by omega)).mono ?_
          rintro r w' ⟨hS, hg⟩
          rw [hq] at hS
          exact ⟨settled_far hS (by omega), hg⟩
      · by_cases p3 : 2097152 < p
        · refine both_no 3 (fun w1 g => scale15hi s ad m cap e p p3 w1 (r35t s ad (m + 1) cap e xs w1 (r1.gr g) h1 q1)) (fun w1 g => ?_)
          by_cases p2 : 1073741824 < p
          · exact rscale16hi s ad m cap e p p2 w1 (r25t s ad (m + 1) cap e xs w1 (r1.gr g) h1 q1)
          · refine (rscale16m s ad m cap _ e p w1 (dx.gr g) (by omega) (by omega)).mono ?_
            rintro r w' ⟨hS, hg⟩
            rw [hq] at hS
            exact ⟨settled_far hS (by omega), hg⟩
        · refine both_set (sv KK s (nv 18446744073709551616 xs) (e + p)) (fun w1 g => (scale15m s ad m cap _ e p w1 (dx.gr g) (tab_gr hT g) (by omega) (by omega)).mono ?_) (fun w1 g => (rscale16m s ad m cap _ e p w1 (dx.gr g) (by omega) (by omega)).mono ?_)
          · rintro r w' ⟨hS, hg⟩
            exact ⟨⟨s, _, e + p, by omega, rfl, hS⟩, hg⟩
          · rintro r w' ⟨hS, hg⟩
            exact ⟨⟨s, _, e + p, by omega, rfl, hS⟩, hg⟩
  · exact both_no 2 (fun w1 g => scale15A s ad n cap e p w1 (r35f s ad n cap e xs w1 (r1.gr g) h1 q1)) (fun w1 g => rscale16A s ad n cap e p w1 (r25f s ad n cap e xs w1 (r1.gr g) h1 q1))
theorem both_cmp (s t : Bool) (ad1 ad2 : Option Addr) (n1 n2 c1 c2 : Nat) (e f : Int) (xs ys : List Nat) (w : World) (r1 : Row w ad1 n1 c1 xs) (r2 : Row w ad2 n2 c2 ys) (h1 : ∀ x ∈ xs, x < 18446744073709551616) (h2 : ∀ x ∈ ys, x < 18446744073709551616) : ∃ C G : Int, (∀ w1, Gr w w1 → Calls Tryz.prog 17 #[.agg #[.bool s, .slice ad1 n1 c1, .int .i64 e], .agg #[.bool t, .slice ad2 n2 c2, .int .i64 f]] w1 fun r w' => r = .returned (.tuple #[.int .i64 C, .int .i64 G]) ∧ Gr w1 w') ∧ (∀ w1, Gr w w1 → Calls Tryz.prog 18 #[.agg #[.bool s, .slice ad1 n1 c1, .int .i64 e], .agg #[.bool t, .slice ad2 n2 c2, .int .i64 f]] w1 fun r w' => r = .returned (.tuple #[.int .i64 C, .int .i64 G]) ∧ Gr w1 w') := by
  by_cases q1 : RightD s xs e
  · by_cases q2 : RightD t ys f
    · have dx := dyAt_of r1 h1 q1
      have dy := dyAt_of r2 h2 q2
      exact ⟨_, _, fun w1 g => cmpG s t ad1 ad2 n1 n2 c1 c2 e f _ _ w1 ⟨_, dx.gr g, rfl⟩ ⟨_, dy.gr g, rfl⟩, fun w1 g => cmp18 s t ad1 ad2 n1 n2 c1 c2 e f _ _ w1 (dx.gr g) (dy.gr g)⟩
    · exact ⟨0, 2, fun w1 g => cmp17A2 s t ad1 ad2 n1 n2 c1 c2 e f w1 (r35t s ad1 n1 c1 e xs w1 (r1.gr g) h1 q1) (r35f t ad2 n2 c2 f ys w1 (r2.gr g) h2 q2), fun w1 g => cmp18A2 s t ad1 ad2 n1 n2 c1 c2 e f w1 (r25t s ad1 n1 c1 e xs w1 (r1.gr g) h1 q1) (r25f t ad2 n2 c2 f ys w1 (r2.gr g) h2 q2)⟩
  · exact ⟨0, 2, fun w1 g => cmp17A1 s t ad1 ad2 n1 n2 c1 c2 e f w1 (r35f s ad1 n1 c1 e xs w1 (r1.gr g) h1 q1), fun w1 g => cmp18A1 s t ad1 ad2 n1 n2 c1 c2 e f w1 (r25f s ad1 n1 c1 e xs w1 (r1.gr g) h1 q1)⟩
end Go.Proofs.YtlooaoijacfcfaaGreatDoor
