import Derived.Test.YtfgaifbnhdgkgaaDoorM20
namespace Go.Proofs.YtfgaifbnhdgkgaaDoor
open Go.RowKit
set_option linter.unusedVariables false

theorem Settled.gr {w w' : World} {r : Ending} {s : Bool} {x : Nat} {e : Int} (h : Settled w r s x e) (g : Gr w w') : Settled w' r s x e := by
  unfold Settled at h ⊢
  rcases h with h | ⟨t, q, ad, n, cap, h1, h2, h3, h4, h5⟩ | h
  · exact Or.inl h
  · exact Or.inr (Or.inl ⟨t, q, ad, n, cap, h1, h2, h3, h4.gr g, h5⟩)
  · exact Or.inr (Or.inr h)
/-- the right dyad of that worth, or ErrLong -/
def SetV (w : World) (r : Ending) (V : Int) : Prop := ∃ s x e, 0 ≤ e + KK ∧ sv KK s x e = V ∧ Settled w r s x e
/-- an answer: that sign, size, power and error -/
def Ans (w : World) (s : Bool) (ad : Option Addr) (n cap : Nat) (e : Int) (g : Int) (S : Bool) (X : Nat) (E G : Int) : Prop := s = S ∧ e = E ∧ g = G ∧ Lim w ad n cap 18446744073709551616 X
theorem Ans.gr {w w' : World} {s : Bool} {ad : Option Addr} {n cap : Nat} {e g : Int} {S : Bool} {X : Nat} {E G : Int} (h : Ans w s ad n cap e g S X E G) (gr : Gr w w') : Ans w' s ad n cap e g S X E G := ⟨h.1, h.2.1, h.2.2.1, h.2.2.2.gr gr⟩
theorem nil_lim (w : World) : Lim w none 0 0 18446744073709551616 0 := ⟨[], Row.empty (by omega) (fun _ => rfl), Dg.nil⟩
theorem sv_odd_one {s t : Bool} {p q : Nat} {e f : Int} (he : 0 ≤ e + KK) (hf : 0 ≤ f + KK) (h : sv KK s (2 * p + 1) e = sv KK t (2 * q + 1) f) : s = t ∧ p = q ∧ e = f := by
  have a1 := sv_abs KK s (2 * p + 1) e
  have a2 := sv_abs KK t (2 * q + 1) f
  rw [h, a2] at a1
  have hs : s = t := by
    have s1 := sv_sign KK s (2 * p + 1) e (by omega)
    have s2 := sv_sign KK t (2 * q + 1) f (by omega)
    rw [h] at s1
    cases s <;> cases t
    · rfl
    · have := s1.2 rfl; have := s2.1 rfl; omega
    · have := s1.1 rfl; have := s2.2 rfl; omega
    · rfl
  have := odd_unique (t := (f + KK).toNat) (q := q) (t' := (e + KK).toNat) (q' := p) (by rw [Nat.mul_comm, a1, Nat.mul_comm])
  exact ⟨hs, this.2.symm, by omega⟩
/-- one worth, one answer -/
theorem setv_ans (V : Int) : ∃ S X E G, ∀ w r, SetV w r V → ∃ s ad n cap e g, r = .returned (.tuple #[.agg #[.bool s, .slice ad n cap, .int .i64 e], .int .i64 g]) ∧ Ans w s ad n cap e g S X E G := by
  by_cases hV : V = 0
  · refine ⟨false, 0, 0, 0, ?_⟩
    rintro w r ⟨s, x, e, he, hw, hS⟩
    rw [hV] at hw
    have hx := sv_eq_zero.1 hw
    subst hx
    unfold Settled at hS
    rcases hS with ⟨_, rfl⟩ | ⟨t, q, _, _, _, h, _⟩ | ⟨t, q, h, _⟩
    · exact ⟨false, none, 0, 0, 0, 0, rfl, rfl, rfl, rfl, nil_lim w⟩
    · exact absurd h.symm (Nat.ne_of_gt (Nat.mul_pos (Nat.two_pow_pos t) (by omega)))
    · exact absurd h.symm (Nat.ne_of_gt (Nat.mul_pos (Nat.two_pow_pos t) (by omega)))
  · by_cases hex : ∃ s t q e, 0 ≤ e + KK ∧ sv KK s (2 ^ t * (2 * q + 1)) e = V
    · obtain ⟨s0, t0, q0, e0, he0, hw0⟩ := hex
      have can : ∀ (s : Bool) (t q : Nat) (e : Int), 0 ≤ e + KK → sv KK s (2 ^ t * (2 * q + 1)) e = V → s = s0 ∧ q = q0 ∧ e + (t : Int) = e0 + (t0 : Int) := by
        intro s t q e he hw
        have d1 := sv_down KK s (2 * q + 1) (e + t) e (by omega) he
        have d2 := sv_down KK s0 (2 * q0 + 1) (e0 + t0) e0 (by omega) he0
        rw [show (e + (t : Int) - e).toNat = t by omega, Nat.mul_comm] at d1
        rw [show (e0 + (t0 : Int) - e0).toNat = t0 by omega, Nat.mul_comm] at d2
        have := sv_odd_one (e := e + t) (f := e0 + t0) (by omega) (by omega) (d1.symm.trans (hw.trans (hw0.symm.trans d2)))
        exact ⟨this.1, this.2.1, this.2.2⟩
      by_cases hF : Fits (2 * q0 + 1) (e0 + (t0 : Int))
      · refine ⟨s0, 2 * q0 + 1, e0 + t0, 0, ?_⟩
        rintro w r ⟨s, x, e, he, hw, hS⟩
        unfold Settled at hS
        rcases hS with ⟨rfl, _⟩ | ⟨t, q, ad, n, cap, rfl, h2, rfl, h4, _⟩ | ⟨t, q, rfl, h2, _⟩
        · rw [sv_zero] at hw; exact absurd hw.symm hV
        · obtain ⟨rfl, rfl, h3⟩ := can s t q e he hw
          exact ⟨s, ad, n, cap, _, 0, rfl, rfl, h3, rfl, h4⟩
        · obtain ⟨rfl, rfl, h3⟩ := can s t q e he hw
          rw [h3] at h2
          exact absurd hF h2
      · refine ⟨false, 0, 0, 3, ?_⟩
        rintro w r ⟨s, x, e, he, hw, hS⟩
        unfold Settled at hS
        rcases hS with ⟨rfl, _⟩ | ⟨t, q, ad, n, cap, rfl, h2, _⟩ | ⟨t, q, rfl, h2, rfl⟩
        · rw [sv_zero] at hw; exact absurd hw.symm hV
        · obtain ⟨rfl, rfl, h3⟩ := can s t q e he hw
          rw [h3] at h2
          exact absurd h2 hF
        · exact ⟨false, none, 0, 0, 0, 3, rfl, rfl, rfl, rfl, nil_lim w⟩
    · refine ⟨false, 0, 0, 0, ?_⟩
      rintro w r ⟨s, x, e, he, hw, hS⟩
      unfold Settled at hS
      rcases hS with ⟨rfl, _⟩ | ⟨t, q, _, _, _, rfl, _⟩ | ⟨t, q, rfl, _⟩
      · rw [sv_zero] at hw; exact absurd hw.symm hV
      · exact absurd ⟨s, t, q, e, he, hw⟩ hex
      · exact absurd ⟨s, t, q, e, he, hw⟩ hex
/-- the sum, as sign, size and power -/
theorem sum_form (s t : Bool) (x y : Nat) (e f : Int) (hK1 : 0 ≤ e + KK) (hK2 : 0 ≤ f + KK) : ∃ neg m g, 0 ≤ g + KK ∧ sv KK neg m g = sv KK s x e + sv KK t y f := by
  by_cases h : e ≤ f
  · by_cases hst : s = t
    · subst hst; exact ⟨s, _, e, hK1, plus_same h hK1⟩
    · by_cases hc : x ≤ y * 2 ^ (f - e).toNat
      · exact ⟨t, _, e, hK1, plus_second h hK1 hst hc⟩
      · exact ⟨s, _, e, hK1, plus_first h hK1 hst (by omega)⟩
  · by_cases hst : s = t
    · subst hst; exact ⟨s, _, f, hK2, by have := plus_same (K := KK) (s := s) (m := y) (n := x) (e := f) (f := e) (by omega) hK2; rw [this]; omega⟩
    · by_cases hc : y ≤ x * 2 ^ (e - f).toNat
      · exact ⟨s, _, f, hK2, by have := plus_second (K := KK) (s := t) (t := s) (m := y) (n := x) (e := f) (f := e) (by omega) hK2 (Ne.symm hst) hc; rw [this]; omega⟩
      · exact ⟨t, _, f, hK2, by have := plus_first (K := KK) (s := t) (t := s) (m := y) (n := x) (e := f) (f := e) (by omega) hK2 (Ne.symm hst) (by omega); rw [this]; omega⟩
theorem far_aux {s t neg : Bool} {p q u v : Nat} {e f g : Int} (hK1 : 0 ≤ e + KK) (hK3 : 0 ≤ g + KK) (hef : 262144 < f - e) (hp : 2 * p + 1 < 18446744073709551616 ^ L4096) (hw : sv KK neg (2 ^ u * (2 * v + 1)) g = sv KK s (2 * p + 1) e + sv KK t (2 * q + 1) f) : ¬ Fits (2 * v + 1) (g + (u : Int)) := by
  intro hF
  obtain ⟨d, hd⟩ : ∃ d : Nat, f = e + d := ⟨(f - e).toNat, by omega⟩
  subst hd
  have hP : (e + (d : Int) + KK).toNat = d + (e + KK).toNat := by omega
  have ha := sv_abs KK neg (2 ^ u * (2 * v + 1)) g
  rw [hw] at ha
  obtain ⟨d, rfl⟩ : ∃ d', d = d' + 1 := ⟨d - 1, by omega⟩
  -- the odd size beside 2^(e + KK)
  obtain ⟨z, hz1, hz2⟩ : ∃ z, (sv KK s (2 * p + 1) e + sv KK t (2 * q + 1) (e + ((d + 1 : Nat) : Int))).natAbs = (2 * z + 1) * 2 ^ (e + KK).toNat ∧ 2 ^ (d + 1) ≤ 2 * z + 1 + (2 * p + 1) := by
    have hq : (2 * q + 1) * 2 ^ (d + 1) = 2 * ((2 * q + 1) * 2 ^ d) := by rw [Nat.pow_succ]; ac_rfl
    have hge : 1 * 2 ^ (d + 1) ≤ (2 * q + 1) * 2 ^ (d + 1) := Nat.mul_le_mul_right _ (by omega)
    unfold sv
    rw [hP, Nat.pow_add, ← Nat.mul_assoc]
    generalize (2 * q + 1) * 2 ^ (d + 1) = Y at *
    generalize (2 * q + 1) * 2 ^ d = Y2 at *
    generalize 2 ^ (e + KK).toNat = P at *
    generalize 2 ^ (d + 1) = D at *
    have big : 2 * p + 1 < Y ∨ Y < 2 * p + 1 := by omega
    rcases big with big | big
    · by_cases hst : s = t
      · refine ⟨p + Y2, ?_, by omega⟩
        subst hst
        have e1 : (2 * (p + Y2) + 1) * P = (2 * p + 1) * P + Y * P := by rw [← Nat.add_mul]; congr 1; omega
        rw [e1]
        cases s <;> simp only [Bool.false_eq_true, if_false, if_true] <;> omega
      · refine ⟨Y2 - p - 1, ?_, by omega⟩
        have e1 : (2 * (Y2 - p - 1) + 1) * P + (2 * p + 1) * P = Y * P := by rw [← Nat.add_mul]; congr 1; omega
        cases s <;> cases t <;> simp only [Bool.false_eq_true, if_false, if_true] <;> first | exact absurd rfl hst | omega
    · by_cases hst : s = t
      · refine ⟨p + Y2, ?_, by omega⟩
        subst hst
        have e1 : (2 * (p + Y2) + 1) * P = (2 * p + 1) * P + Y * P := by rw [← Nat.add_mul]; congr 1; omega
        rw [e1]
        cases s <;> simp only [Bool.false_eq_true, if_false, if_true] <;> omega
      · refine ⟨p - Y2, ?_, by omega⟩
        have e1 : (2 * (p - Y2) + 1) * P + Y * P = (2 * p + 1) * P := by rw [← Nat.add_mul]; congr 1; omega
        cases s <;> cases t <;> simp only [Bool.false_eq_true, if_false, if_true] <;> first | exact absurd rfl hst | omega
  rw [hz1] at ha
  have hu := odd_unique (t := (e + KK).toNat) (q := z) (t' := u + (g + KK).toNat) (q' := v) (by rw [Nat.mul_comm, ha, Nat.pow_add]; ac_rfl)
  obtain ⟨_, rfl⟩ := hu
  have h1 := hF.1
  rw [pow64] at h1 hp
  have h2 : 2 ^ (64 * L4096) * 2 ≤ 2 ^ (d + 1) := by
    rw [← Nat.pow_succ]
    exact Nat.pow_le_pow_right (by omega) (by rw [L4096_eq]; omega)
  omega
/-- too far apart: too long -/
theorem far_setv (w : World) (s t : Bool) (x y : Nat) (e f : Int) (hx : x = 0 ∨ ∃ q, x = 2 * q + 1) (hy : y = 0 ∨ ∃ q, y = 2 * q + 1) (x0 : 0 < x) (y0 : 0 < y) (bx : x < 18446744073709551616 ^ L4096) (by' : y < 18446744073709551616 ^ L4096) (hK1 : 0 ≤ e + KK) (hK2 : 0 ≤ f + KK) (hef : 262144 < max e f - min e f) :
    SetV w (.returned (.tuple #[zeroD, .int .i64 3])) (sv KK s x e + sv KK t y f) := by
  obtain ⟨p, rfl⟩ : ∃ q, x = 2 * q + 1 := by rcases hx with h | h; omega; exact h
  obtain ⟨q, rfl⟩ : ∃ q, y = 2 * q + 1 := by rcases hy with h | h; omega; exact h
  obtain ⟨neg, m, g, hg, hw⟩ := sum_form s t (2 * p + 1) (2 * q + 1) e f hK1 hK2
  refine ⟨neg, m, g, hg, hw, ?_⟩
  by_cases hm : m = 0
  · exfalso
    subst hm
    rw [sv_zero] at hw
    have hst : sv KK s (2 * p + 1) e = sv KK (!t) (2 * q + 1) f := by rw [sv_neg]; omega
    have := sv_odd_one hK1 hK2 hst
    omega
  · obtain ⟨u, v, rfl⟩ := odd_form m (by omega)
    unfold Settled
    refine Or.inr (Or.inr ⟨u, v, rfl, ?_, rfl⟩)
    by_cases h : e ≤ f
    · exact far_aux hK1 hg (by omega) bx hw
    · exact far_aux (s := t) (t := s) (p := q) (q := p) (e := f) (f := e) hK2 hg (by omega) by' (by rw [hw]; omega)
end Go.Proofs.YtfgaifbnhdgkgaaDoor
namespace Go.Proofs.YtfgaifbnhdgkgaaDoor
open Go.RowKit
set_option linter.unusedVariables false

set_option maxRecDepth 10000 in
set_option maxHeartbeats 1600000 in
theorem reckonA1 (s t : Bool) (ad1 ad2 : Option Addr) (n1 n2 c1 c2 : Nat) (e f : Int) (fv : Value) (w : World)
    (R1 : Hid (∀ w1, Gr w w1 → Calls Tryd.prog 41 #[.agg #[.bool s, .slice ad1 n1 c1, .int .i64 e]] w1 fun r w' => r = .returned (.bool false) ∧ Gr w1 w')) :
    Calls Tryd.prog 62 #[.agg #[.bool s, .slice ad1 n1 c1, .int .i64 e], .agg #[.bool t, .slice ad2 n2 c2, .int .i64 f], fv] w fun r w' => r = .returned (.tuple #[zeroD, .int .i64 2]) ∧ Gr w w' := by
  have TB := three_blocks w (.bool s) (.slice ad1 n1 c1) (.int .i64 e) (.bool t) (.slice ad2 n2 c2) (.int .i64 f) (.cells #[.bool false, .slice none 0 0, .int .i64 0] 48) _ rfl
  have TB' : Hid _ := TB
  clear TB
  have tok : True := trivial
  go_enter Tryd.func62, Tryd.ntmps62
  go_wp2_with (first | (go_at_call 41; have _t := tok; (with_reducible refine (R1.out _ ((((Gr.refl w).alloc _).alloc _).alloc _)).mono ?_); rintro r w1 ⟨rfl, g1⟩; clear tok; have q0 := g1.keep TB'.out.1.1.2.2.2.1; have q1 := g1.keep TB'.out.1.1.2.2.2.2.1; have q2 := g1.keep TB'.out.1.1.2.2.2.2.2; have p0 := g1.keep TB'.out.1.1.1; have p1 := g1.keep TB'.out.1.1.2.1; have p2 := g1.keep TB'.out.1.1.2.2.1; have kb := g1.keepH TB'.out.2.1; obtain ⟨t0, t1, t2, u0, u1, u2⟩ := Out3.of kb))
  refine bodyPost_ret (v := .tuple #[zeroD, .int .i64 2]) ?_ rfl ⟨rfl, ?_⟩
  · simp [results, Tryd.results62, go_sem, t0, t1, t2, zeroD]
  · exact ((((((((Gr.refl w).alloc _).alloc _).alloc _).trans g1)).setCell (p := ⟨w.heap.size + 2, 0, none⟩) (by show _ ≤ w.heap.size + 2; omega) _).setCell (p := ⟨w.heap.size + 2, 1, none⟩) (by show _ ≤ w.heap.size + 2; omega) _).setCell (p := ⟨w.heap.size + 2, 2, none⟩) (by show _ ≤ w.heap.size + 2; omega) _
set_option maxRecDepth 10000 in
set_option maxHeartbeats 1600000 in
theorem reckonA2 (s t : Bool) (ad1 ad2 : Option Addr) (n1 n2 c1 c2 : Nat) (e f : Int) (fv : Value) (w : World)
    (R1 : Hid (∀ w1, Gr w w1 → Calls Tryd.prog 41 #[.agg #[.bool s, .slice ad1 n1 c1, .int .i64 e]] w1 fun r w' => r = .returned (.bool true) ∧ Gr w1 w'))
    (R2 : Hid (∀ w1, Gr w w1 → Calls Tryd.prog 41 #[.agg #[.bool t, .slice ad2 n2 c2, .int .i64 f]] w1 fun r w' => r = .returned (.bool false) ∧ Gr w1 w')) :
    Calls Tryd.prog 62 #[.agg #[.bool s, .slice ad1 n1 c1, .int .i64 e], .agg #[.bool t, .slice ad2 n2 c2, .int .i64 f], fv] w fun r w' => r = .returned (.tuple #[zeroD, .int .i64 2]) ∧ Gr w w' := by
  have TB := three_blocks w (.bool s) (.slice ad1 n1 c1) (.int .i64 e) (.bool t) (.slice ad2 n2 c2) (.int .i64 f) (.cells #[.bool false, .slice none 0 0, .int .i64 0] 48) _ rfl
  have TB' : Hid _ := TB
  clear TB
  have tok : True := trivial
  go_enter Tryd.func62, Tryd.ntmps62
  go_wp2_with (first | (go_at_call 41; have _t := tok; (with_reducible refine (R1.out _ ((((Gr.refl w).alloc _).alloc _).alloc _)).mono ?_); rintro r w1 ⟨rfl, g1⟩; clear tok; have q0 := g1.keep TB'.out.1.1.2.2.2.1; have q1 := g1.keep TB'.out.1.1.2.2.2.2.1; have q2 := g1.keep TB'.out.1.1.2.2.2.2.2; have p0 := g1.keep TB'.out.1.1.1; have p1 := g1.keep TB'.out.1.1.2.1; have p2 := g1.keep TB'.out.1.1.2.2.1; have kb := g1.keepH TB'.out.2.1; obtain ⟨t0, t1, t2, u0, u1, u2⟩ := Out3.of kb) | (go_at_call 41; (with_reducible refine (R2.out _ ?gg).mono ?_); (case gg => exact ((((Gr.refl w).alloc _).alloc _).alloc _).trans g1); rintro r w2 ⟨rfl, g2⟩; have kb2 := g2.keepH kb; clear q0 q1 q2 p0 p1 p2 t0 t1 t2 u0 u1 u2; obtain ⟨t0, t1, t2, u0, u1, u2⟩ := Out3.of kb2))
  refine bodyPost_ret (v := .tuple #[zeroD, .int .i64 2]) ?_ rfl ⟨rfl, ?_⟩
  · simp [results, Tryd.results62, go_sem, t0, t1, t2, zeroD]
  · exact (((((((((Gr.refl w).alloc _).alloc _).alloc _).trans g1).trans g2)).setCell (p := ⟨w.heap.size + 2, 0, none⟩) (by show _ ≤ w.heap.size + 2; omega) _).setCell (p := ⟨w.heap.size + 2, 1, none⟩) (by show _ ≤ w.heap.size + 2; omega) _).setCell (p := ⟨w.heap.size + 2, 2, none⟩) (by show _ ≤ w.heap.size + 2; omega) _
set_option maxRecDepth 10000 in
set_option maxHeartbeats 1600000 in
theorem wrapE6 (s t : Bool) (ad1 ad2 : Option Addr) (n1 n2 c1 c2 : Nat) (e f : Int) (w : World) (g : Int)
    (H : Hid (Calls Tryd.prog 62 #[.agg #[.bool s, .slice ad1 n1 c1, .int .i64 e], .agg #[.bool t, .slice ad2 n2 c2, .int .i64 f], .func (.func 63) #[] #[.pointer (some ⟨w.heap.size, 0, none⟩), .pointer (some ⟨w.heap.size + 1, 0, none⟩)]] (((w.alloc (.cells #[.bool s, .slice ad1 n1 c1, .int .i64 e] 48)).alloc (.cells #[.bool t, .slice ad2 n2 c2, .int .i64 f] 48)).alloc (.cells #[.bool false, .slice none 0 0, .int .i64 0] 48)) fun r w' => r = .returned (.tuple #[.agg #[.bool false, .slice none 0 0, .int .i64 0], .int .i64 g]) ∧ Gr (((w.alloc (.cells #[.bool s, .slice ad1 n1 c1, .int .i64 e] 48)).alloc (.cells #[.bool t, .slice ad2 n2 c2, .int .i64 f] 48)).alloc (.cells #[.bool false, .slice none 0 0, .int .i64 0] 48)) w')) :
    Calls Tryd.prog 50 #[.agg #[.bool s, .slice ad1 n1 c1, .int .i64 e], .agg #[.bool t, .slice ad2 n2 c2, .int .i64 f]] w fun r w' => r = .returned (.tuple #[zeroD, .int .i64 g]) ∧ Gr w w' := by
  have TB := three_blocks w (.bool s) (.slice ad1 n1 c1) (.int .i64 e) (.bool t) (.slice ad2 n2 c2) (.int .i64 f) (.cells #[.bool false, .slice none 0 0, .int .i64 0] 48) _ rfl
  have G0 := TB.2.2
  have TB' : Hid _ := TB
  clear TB
  go_enter Tryd.func50, Tryd.ntmps50
  go_wp2_with (go_at_call 62; (with_reducible refine H.out.mono ?_); rintro r w1 ⟨rfl, g4⟩; have kb4 := g4.keepH TB'.out.2.1; obtain ⟨t0, t1, t2, u0, u1, u2⟩ := Out3.of kb4)
  refine bodyPost_ret (v := .tuple #[zeroD, .int .i64 g]) ?_ rfl ⟨rfl, ?_⟩
  · simp [results, Tryd.results50, go_sem, t0, t1, t2, zeroD]
  · exact (((G0.trans g4).setCell (p := ⟨w.heap.size + 2, 0, none⟩) (by show _ ≤ w.heap.size + 2; omega) _).setCell (p := ⟨w.heap.size + 2, 1, none⟩) (by show _ ≤ w.heap.size + 2; omega) _).setCell (p := ⟨w.heap.size + 2, 2, none⟩) (by show _ ≤ w.heap.size + 2; omega) _
theorem op6A1 (s t : Bool) (ad1 ad2 : Option Addr) (n1 n2 c1 c2 : Nat) (e f : Int) (w : World)
    (R1 : Hid (∀ w1, Gr w w1 → Calls Tryd.prog 41 #[.agg #[.bool s, .slice ad1 n1 c1, .int .i64 e]] w1 fun r w' => r = .returned (.bool false) ∧ Gr w1 w')) :
    Calls Tryd.prog 50 #[.agg #[.bool s, .slice ad1 n1 c1, .int .i64 e], .agg #[.bool t, .slice ad2 n2 c2, .int .i64 f]] w fun r w' => r = .returned (.tuple #[zeroD, .int .i64 2]) ∧ Gr w w' := by
  have G0 : Gr w (((w.alloc (.cells #[.bool s, .slice ad1 n1 c1, .int .i64 e] 48)).alloc (.cells #[.bool t, .slice ad2 n2 c2, .int .i64 f] 48)).alloc (.cells #[.bool false, .slice none 0 0, .int .i64 0] 48)) := (((Gr.refl w).alloc _).alloc _).alloc _
  exact wrapE6 s t ad1 ad2 n1 n2 c1 c2 e f w 2 (reckonA1 s t ad1 ad2 n1 n2 c1 c2 e f _ _ (fun w1 g => R1.out w1 (G0.trans g)))
theorem op6A2 (s t : Bool) (ad1 ad2 : Option Addr) (n1 n2 c1 c2 : Nat) (e f : Int) (w : World)
    (R1 : Hid (∀ w1, Gr w w1 → Calls Tryd.prog 41 #[.agg #[.bool s, .slice ad1 n1 c1, .int .i64 e]] w1 fun r w' => r = .returned (.bool true) ∧ Gr w1 w'))
    (R2 : Hid (∀ w1, Gr w w1 → Calls Tryd.prog 41 #[.agg #[.bool t, .slice ad2 n2 c2, .int .i64 f]] w1 fun r w' => r = .returned (.bool false) ∧ Gr w1 w')) :
    Calls Tryd.prog 50 #[.agg #[.bool s, .slice ad1 n1 c1, .int .i64 e], .agg #[.bool t, .slice ad2 n2 c2, .int .i64 f]] w fun r w' => r = .returned (.tuple #[zeroD, .int .i64 2]) ∧ Gr w w' := by
  have G0 : Gr w (((w.alloc (.cells #[.bool s, .slice ad1 n1 c1, .int .i64 e] 48)).alloc (.cells #[.bool t, .slice ad2 n2 c2, .int .i64 f] 48)).alloc (.cells #[.bool false, .slice none 0 0, .int .i64 0] 48)) := (((Gr.refl w).alloc _).alloc _).alloc _
  exact wrapE6 s t ad1 ad2 n1 n2 c1 c2 e f w 2 (reckonA2 s t ad1 ad2 n1 n2 c1 c2 e f _ _ (fun w1 g => R1.out w1 (G0.trans g)) (fun w1 g => R2.out w1 (G0.trans g)))
set_option maxRecDepth 10000 in
set_option maxHeartbeats 1600000 in
theorem wrapE8 (s t : Bool) (ad1 ad2 : Option Addr) (n1 n2 c1 c2 : Nat) (e f : Int) (w : World) (g : Int)
    (H : Hid (Calls Tryd.prog 62 #[.agg #[.bool s, .slice ad1 n1 c1, .int .i64 e], .agg #[.bool t, .slice ad2 n2 c2, .int .i64 f], .func (.func 67) #[] #[.pointer (some ⟨w.heap.size, 0, none⟩), .pointer (some ⟨w.heap.size + 1, 0, none⟩)]] (((w.alloc (.cells #[.bool s, .slice ad1 n1 c1, .int .i64 e] 48)).alloc (.cells #[.bool t, .slice ad2 n2 c2, .int .i64 f] 48)).alloc (.cells #[.bool false, .slice none 0 0, .int .i64 0] 48)) fun r w' => r = .returned (.tuple #[.agg #[.bool false, .slice none 0 0, .int .i64 0], .int .i64 g]) ∧ Gr (((w.alloc (.cells #[.bool s, .slice ad1 n1 c1, .int .i64 e] 48)).alloc (.cells #[.bool t, .slice ad2 n2 c2, .int .i64 f] 48)).alloc (.cells #[.bool false, .slice none 0 0, .int .i64 0] 48)) w')) :
    Calls Tryd.prog 53 #[.agg #[.bool s, .slice ad1 n1 c1, .int .i64 e], .agg #[.bool t, .slice ad2 n2 c2, .int .i64 f]] w fun r w' => r = .returned (.tuple #[zeroD, .int .i64 g]) ∧ Gr w w' := by
  have TB := three_blocks w (.bool s) (.slice ad1 n1 c1) (.int .i64 e) (.bool t) (.slice ad2 n2 c2) (.int .i64 f) (.cells #[.bool false, .slice none 0 0, .int .i64 0] 48) _ rfl
  have G0 := TB.2.2
  have TB' : Hid _ := TB
  clear TB
  go_enter Tryd.func53, Tryd.ntmps53
  go_wp2_with (go_at_call 62; (with_reducible refine H.out.mono ?_); rintro r w1 ⟨rfl, g4⟩; have kb4 := g4.keepH TB'.out.2.1; obtain ⟨t0, t1, t2, u0, u1, u2⟩ := Out3.of kb4)
  refine bodyPost_ret (v := .tuple #[zeroD, .int .i64 g]) ?_ rfl ⟨rfl, ?_⟩
  · simp [results, Tryd.results53, go_sem, t0, t1, t2, zeroD]
  · exact (((G0.trans g4).setCell (p := ⟨w.heap.size + 2, 0, none⟩) (by show _ ≤ w.heap.size + 2; omega) _).setCell (p := ⟨w.heap.size + 2, 1, none⟩) (by show _ ≤ w.heap.size + 2; omega) _).setCell (p := ⟨w.heap.size + 2, 2, none⟩) (by show _ ≤ w.heap.size + 2; omega) _
theorem op8A1 (s t : Bool) (ad1 ad2 : Option Addr) (n1 n2 c1 c2 : Nat) (e f : Int) (w : World)
    (R1 : Hid (∀ w1, Gr w w1 → Calls Tryd.prog 41 #[.agg #[.bool s, .slice ad1 n1 c1, .int .i64 e]] w1 fun r w' => r = .returned (.bool false) ∧ Gr w1 w')) :
    Calls Tryd.prog 53 #[.agg #[.bool s, .slice ad1 n1 c1, .int .i64 e], .agg #[.bool t, .slice ad2 n2 c2, .int .i64 f]] w fun r w' => r = .returned (.tuple #[zeroD, .int .i64 2]) ∧ Gr w w' := by
  have G0 : Gr w (((w.alloc (.cells #[.bool s, .slice ad1 n1 c1, .int .i64 e] 48)).alloc (.cells #[.bool t, .slice ad2 n2 c2, .int .i64 f] 48)).alloc (.cells #[.bool false, .slice none 0 0, .int .i64 0] 48)) := (((Gr.refl w).alloc _).alloc _).alloc _
  exact wrapE8 s t ad1 ad2 n1 n2 c1 c2 e f w 2 (reckonA1 s t ad1 ad2 n1 n2 c1 c2 e f _ _ (fun w1 g => R1.out w1 (G0.trans g)))
theorem op8A2 (s t : Bool) (ad1 ad2 : Option Addr) (n1 n2 c1 c2 : Nat) (e f : Int) (w : World)
    (R1 : Hid (∀ w1, Gr w w1 → Calls Tryd.prog 41 #[.agg #[.bool s, .slice ad1 n1 c1, .int .i64 e]] w1 fun r w' => r = .returned (.bool true) ∧ Gr w1 w'))
    (R2 : Hid (∀ w1, Gr w w1 → Calls Tryd.prog 41 #[.agg #[.bool t, .slice ad2 n2 c2, .int .i64 f]] w1 fun r w' => r = .returned (.bool false) ∧ Gr w1 w')) :
    Calls Tryd.prog 53 #[.agg #[.bool s, .slice ad1 n1 c1, .int .i64 e], .agg #[.bool t, .slice ad2 n2 c2, .int .i64 f]] w fun r w' => r = .returned (.tuple #[zeroD, .int .i64 2]) ∧ Gr w w' := by
  have G0 : Gr w (((w.alloc (.cells #[.bool s, .slice ad1 n1 c1, .int .i64 e] 48)).alloc (.cells #[.bool t, .slice ad2 n2 c2, .int .i64 f] 48)).alloc (.cells #[.bool false, .slice none 0 0, .int .i64 0] 48)) := (((Gr.refl w).alloc _).alloc _).alloc _
  exact wrapE8 s t ad1 ad2 n1 n2 c1 c2 e f w 2 (reckonA2 s t ad1 ad2 n1 n2 c1 c2 e f _ _ (fun w1 g => R1.out w1 (G0.trans g)) (fun w1 g => R2.out w1 (G0.trans g)))
end Go.Proofs.YtfgaifbnhdgkgaaDoor
namespace Go.Proofs.YtfgaifbnhdgkgaaDoor
open Go.RowKit
set_option linter.unusedVariables false

theorem DyAt.bl {w : World} {s : Bool} {ad : Option Addr} {n cap : Nat} {e : Int} {x : Nat} (h : DyAt w s ad n cap e x) : bl x ≤ 262144 := by
  obtain ⟨xs, h1, h2⟩ := h.lim
  have h3 := bl_len h2
  rw [h1.len] at h3
  have := h.le
  omega
theorem DyAt.lt {w : World} {s : Bool} {ad : Option Addr} {n cap : Nat} {e : Int} {x : Nat} (h : DyAt w s ad n cap e x) : x < 18446744073709551616 ^ L4096 := by
  obtain ⟨xs, h1, h2⟩ := h.lim
  refine Nat.lt_of_lt_of_le h2.upper (Nat.pow_le_pow_right (by omega) ?_)
  rw [h1.len, L4096_eq]; exact h.le
theorem DyAt.odd {w : World} {s : Bool} {ad : Option Addr} {n cap : Nat} {e : Int} {x : Nat} (h : DyAt w s ad n cap e x) : x = 0 ∨ ∃ q, x = 2 * q + 1 := by
  rcases h.right with ⟨h, _⟩ | ⟨q, h, _⟩
  · exact Or.inl h
  · exact Or.inr ⟨q, h⟩
theorem bl_mul (x y : Nat) : bl (x * y) ≤ bl x + bl y := by
  refine bl_le_of_lt ?_
  rw [Nat.pow_add]
  exact Nat.mul_lt_mul'' (bl_lt x) (bl_lt y)
end Go.Proofs.YtfgaifbnhdgkgaaDoor
