import Derived.Test.YtlooaoijacfcfaaDoorRJ
namespace Go.Proofs.YtlooaoijacfcfaaDoor
open Go.RowKit
set_option linter.unusedVariables false

theorem odd_form : ∀ x : Nat, 0 < x → ∃ t q, x = 2 ^ t * (2 * q + 1) := by
  intro x
  induction x using Nat.strongRecOn with
  | ind x ih =>
    intro h
    by_cases h1 : x % 2 = 1
    · exact ⟨0, x / 2, by rw [Nat.pow_zero]; omega⟩
    · obtain ⟨t, q, e⟩ := ih (x / 2) (by omega) (by omega)
      exact ⟨t + 1, q, by rw [Nat.pow_succ, Nat.mul_comm (2 ^ t) 2, Nat.mul_assoc, ← e]; omega⟩
theorem odd_unique {t q t' q' : Nat} (h : 2 ^ t * (2 * q + 1) = 2 ^ t' * (2 * q' + 1)) : t = t' ∧ q = q' := by
  have key : ∀ (t q t' q' : Nat), 2 ^ t * (2 * q + 1) = 2 ^ t' * (2 * q' + 1) → t' ≤ t := by
    intro t q t' q' h
    refine Nat.le_of_not_lt fun hlt => ?_
    obtain ⟨d, rfl⟩ : ∃ d, t' = t + (d + 1) := ⟨t' - t - 1, by omega⟩
    rw [Nat.pow_add, Nat.mul_assoc] at h
    have h1 := Nat.eq_of_mul_eq_mul_left (Nat.two_pow_pos t) h
    rw [Nat.pow_succ, Nat.mul_comm (2 ^ d) 2, Nat.mul_assoc] at h1
    omega
  have e1 : t = t' := Nat.le_antisymm (key _ _ _ _ h.symm) (key _ _ _ _ h)
  subst e1
  have := Nat.eq_of_mul_eq_mul_left (Nat.two_pow_pos t) h
  exact ⟨rfl, by omega⟩
set_option maxRecDepth 10000 in
set_option maxHeartbeats 1600000 in
theorem told_z (s : Bool) (ad : Option Addr) (n cap : Nat) (e : Int) (w : World) (H : Hid (∀ w1, Gr w w1 → Calls Tryd.prog 38 #[.agg #[.bool s, .slice ad n cap, .int .i64 e]] w1 fun r w' => r = .returned (.tuple #[.agg #[.bool false, .slice none 0 0, .int .i64 0], .bool true]) ∧ Gr w1 w')) :
    Calls Tryd.prog 19 #[.agg #[.bool s, .slice ad n cap, .int .i64 e]] w fun r w' => r = .returned (.tuple #[zeroD, .int .i64 0]) ∧ Gr w w' := by
  have BB : Hid _ := blk2 w (.cells #[.bool s, .slice ad n cap, .int .i64 e] 44) (.cells #[.bool false, .slice none 0 0, .int .i64 0] 24)
  go_enter Tryd.func19, Tryd.ntmps19
  go_wp2_with (go_at_call 38; (with_reducible refine (H.out _ (gr2 _ _)).mono ?_); rintro r w1 ⟨rfl, g1⟩; have kb := ((Gr.refl w1).alloc (.cells #[.bool false, .slice none 0 0, .int .i64 0] 24)).keepH (g1.keepH BB.out.2); obtain ⟨t0, t1, t2, u0, u1, u2⟩ := Out3.of kb)
  refine bodyPost_ret (v := .tuple #[zeroD, .int .i64 0]) ?_ rfl ⟨rfl, ((((gr2 _ _).trans g1).alloc _).setCell (p := ⟨w.heap.size + 1, 0, none⟩) (Nat.le_succ _) _).setCell (p := ⟨w.heap.size + 1, 1, none⟩) (Nat.le_succ _) _ |>.setCell (p := ⟨w.heap.size + 1, 2, none⟩) (Nat.le_succ _) _⟩
  simp [results, Tryd.results19, go_sem, t0, t1, t2, zeroD]
set_option maxRecDepth 10000 in
set_option maxHeartbeats 1600000 in
theorem told_l (s : Bool) (ad : Option Addr) (n cap : Nat) (e : Int) (w : World) (H : Hid (∀ w1, Gr w w1 → Calls Tryd.prog 38 #[.agg #[.bool s, .slice ad n cap, .int .i64 e]] w1 fun r w' => r = .returned (.tuple #[.agg #[.bool false, .slice none 0 0, .int .i64 0], .bool false]) ∧ Gr w1 w')) :
    Calls Tryd.prog 19 #[.agg #[.bool s, .slice ad n cap, .int .i64 e]] w fun r w' => r = .returned (.tuple #[zeroD, .int .i64 3]) ∧ Gr w w' := by
  have BB : Hid _ := blk2 w (.cells #[.bool s, .slice ad n cap, .int .i64 e] 44) (.cells #[.bool false, .slice none 0 0, .int .i64 0] 24)
  go_enter Tryd.func19, Tryd.ntmps19
  go_wp2_with (go_at_call 38; (with_reducible refine (H.out _ (gr2 _ _)).mono ?_); rintro r w1 ⟨rfl, g1⟩; have kb := ((Gr.refl w1).alloc (.cells #[.bool false, .slice none 0 0, .int .i64 0] 24)).keepH (g1.keepH BB.out.2); obtain ⟨t0, t1, t2, u0, u1, u2⟩ := Out3.of kb)
  refine bodyPost_ret (v := .tuple #[zeroD, .int .i64 3]) ?_ rfl ⟨rfl, ((((gr2 _ _).trans g1).alloc _).setCell (p := ⟨w.heap.size + 1, 0, none⟩) (Nat.le_succ _) _).setCell (p := ⟨w.heap.size + 1, 1, none⟩) (Nat.le_succ _) _ |>.setCell (p := ⟨w.heap.size + 1, 2, none⟩) (Nat.le_succ _) _⟩
  simp [results, Tryd.results19, go_sem, t0, t1, t2, zeroD]
set_option maxRecDepth 10000 in
set_option maxHeartbeats 1600000 in
theorem told_f (s : Bool) (ad : Option Addr) (n cap : Nat) (e : Int) (w : World) (s' : Bool) (e' : Int) (y : Nat) (H : Hid (∀ w1, Gr w w1 → Calls Tryd.prog 38 #[.agg #[.bool s, .slice ad n cap, .int .i64 e]] w1 fun r w' => ∃ a4 n4 c4, r = .returned (.tuple #[.agg #[.bool s', .slice a4 n4 c4, .int .i64 e'], .bool true]) ∧ Hid (Lim w' a4 n4 c4 18446744073709551616 y ∧ n4 ≤ 4096) ∧ Gr w1 w')) :
    Calls Tryd.prog 19 #[.agg #[.bool s, .slice ad n cap, .int .i64 e]] w fun r w' => (∃ a4 n4 c4, r = .returned (.tuple #[.agg #[.bool s', .slice a4 n4 c4, .int .i64 e'], .int .i64 0]) ∧ Lim w' a4 n4 c4 18446744073709551616 y ∧ n4 ≤ 4096) ∧ Gr w w' := by
  have BB : Hid _ := blk2 w (.cells #[.bool s, .slice ad n cap, .int .i64 e] 44) (.cells #[.bool false, .slice none 0 0, .int .i64 0] 24)
  go_enter Tryd.func19, Tryd.ntmps19
  go_wp2_with (go_at_call 38; (with_reducible refine (H.out _ (gr2 _ _)).mono ?_); rintro r w1 ⟨a4, n4, c4, rfl, hl4, g1⟩; have kb := ((Gr.refl w1).alloc (.cells #[.bool s', .slice a4 n4 c4, .int .i64 e'] 24)).keepH (g1.keepH BB.out.2); obtain ⟨t0, t1, t2, u0, u1, u2⟩ := Out3.of kb)
  have hlA := hl4.out.1.gr ((Gr.refl w1).alloc (.cells #[.bool s', .slice a4 n4 c4, .int .i64 e'] 24))
  refine bodyPost_ret (v := .tuple #[.agg #[.bool s', .slice a4 n4 c4, .int .i64 e'], .int .i64 0]) ?_ rfl ⟨⟨a4, n4, c4, rfl, hlA.set3 (hlA.apart kb) _ _ _, hl4.out.2⟩, ((((gr2 _ _).trans g1).alloc _).setCell (p := ⟨w.heap.size + 1, 0, none⟩) (Nat.le_succ _) _).setCell (p := ⟨w.heap.size + 1, 1, none⟩) (Nat.le_succ _) _ |>.setCell (p := ⟨w.heap.size + 1, 2, none⟩) (Nat.le_succ _) _⟩
  simp [results, Tryd.results19, go_sem, t0, t1, t2]
/-- told: the right dyad of a number, or ErrLong -/
theorem told26 (s : Bool) (ad : Option Addr) (n cap x : Nat) (e : Int) (w : World) (hx : Lim w ad n cap 18446744073709551616 x) (hb : bl x ≤ 34359738368) (e1 : -1000000000000 ≤ e) (e2 : e ≤ 1000000000000) :
    Calls Tryd.prog 19 #[.agg #[.bool s, .slice ad n cap, .int .i64 e]] w fun r w' => Settled w' r s x e ∧ Gr w w' := by
  have T : ∀ w1, Gr w w1 → Calls Tryd.prog 38 #[.agg #[.bool s, .slice ad n cap, .int .i64 e]] w1 fun r w' => TellR w' r s x e ∧ Gr w1 w' := fun w1 g => tell55 s ad n cap x e w1 (hx.gr g) hb e1 e2
  by_cases x0 : x = 0
  · subst x0
    refine (told_z s ad n cap e w fun w1 g => (T w1 g).mono ?_).mono ?_
    · rintro r w' ⟨h, g'⟩
      unfold TellR at h
      rcases h with ⟨_, h⟩ | ⟨t, q, _, _, _, h, _⟩ | ⟨t, q, h, _⟩
      · exact ⟨h, g'⟩
      · exact absurd h.symm (Nat.ne_of_gt (Nat.mul_pos (Nat.two_pow_pos t) (by omega)))
      · exact absurd h.symm (Nat.ne_of_gt (Nat.mul_pos (Nat.two_pow_pos t) (by omega)))
    · rintro r w' ⟨h, g'⟩
      exact ⟨by unfold Settled; exact Or.inl ⟨rfl, h⟩, g'⟩
  · obtain ⟨t, q, ht⟩ := odd_form x (by omega)
    by_cases hF : Fits (2 * q + 1) (e + (t : Int))
    · refine (told_f s ad n cap e w s (e + (t : Int)) (2 * q + 1) fun w1 g => (T w1 g).mono ?_).mono ?_
      · rintro r w' ⟨h, g'⟩
        unfold TellR at h
        rcases h with ⟨h, _⟩ | ⟨t', q', a4, n4, c4, h1, h2, h3, h4, h5⟩ | ⟨t', q', h1, h2, _⟩
        · exact absurd h x0
        · obtain ⟨rfl, rfl⟩ := odd_unique (ht.symm.trans h1)
          exact ⟨a4, n4, c4, h3, ⟨h4, h5⟩, g'⟩
        · obtain ⟨rfl, rfl⟩ := odd_unique (ht.symm.trans h1)
          exact absurd hF h2
      · rintro r w' ⟨⟨a4, n4, c4, h1, h2, h3⟩, g'⟩
        exact ⟨by unfold Settled; exact Or.inr (Or.inl ⟨t, q, a4, n4, c4, ht, hF, h1, h2, h3⟩), g'⟩
    · refine (told_l s ad n cap e w fun w1 g => (T w1 g).mono ?_).mono ?_
      · rintro r w' ⟨h, g'⟩
        unfold TellR at h
        rcases h with ⟨h, _⟩ | ⟨t', q', a4, n4, c4, h1, h2, _⟩ | ⟨t', q', h1, h2, h3⟩
        · exact absurd h x0
        · obtain ⟨rfl, rfl⟩ := odd_unique (ht.symm.trans h1)
          exact absurd h2 hF
        · exact ⟨h3, g'⟩
      · rintro r w' ⟨h, g'⟩
        exact ⟨by unfold Settled; exact Or.inr (Or.inr ⟨t, q, ht, hF, h⟩), g'⟩
end Go.Proofs.YtlooaoijacfcfaaDoor
