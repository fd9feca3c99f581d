import Derived.Test.YteompnpfoplppaaRg
namespace Go.Proofs.Yteompnpfoplppaa
open Go.RowKit
open Ieee
set_option linter.unusedVariables false

theorem boxes9 (w : World) (T : TypeId) (a0 a1 a2 b0 b1 b2 c0 c1 c2 : Value) (W0 : World) (hW0 : W0 = ((w.alloc (.cells #[a0, a1, a2] T)).alloc (.cells #[b0, b1, b2] T)).alloc (.cells #[c0, c1, c2] T)) :
    (W0.drew.cell? ⟨w.heap.size, 0, none⟩ = some a0 ∧ W0.drew.cell? ⟨w.heap.size, 1, none⟩ = some a1 ∧ W0.drew.cell? ⟨w.heap.size, 2, none⟩ = some a2 ∧ W0.drew.cell? ⟨w.heap.size + 1, 0, none⟩ = some b0 ∧ W0.drew.cell? ⟨w.heap.size + 1, 1, none⟩ = some b1 ∧ W0.drew.cell? ⟨w.heap.size + 1, 2, none⟩ = some b2 ∧ W0.drew.cell? ⟨w.heap.size + 2, 0, none⟩ = some c0 ∧ W0.drew.cell? ⟨w.heap.size + 2, 1, none⟩ = some c1 ∧ W0.drew.cell? ⟨w.heap.size + 2, 2, none⟩ = some c2) ∧ Gr w W0.drew := by
  have h0 : W0.heap[w.heap.size]? = some (.cells #[a0, a1, a2] T) := by
    rw [hW0]
    show (((w.heap.push _).push _).push _)[w.heap.size]? = _
    simp only [Array.getElem?_push, Array.size_push]
    rw [if_neg (by omega), if_neg (by omega), if_pos trivial]
  have h1 : W0.heap[w.heap.size + 1]? = some (.cells #[b0, b1, b2] T) := by
    rw [hW0]
    show (((w.heap.push _).push _).push _)[w.heap.size + 1]? = _
    simp only [Array.getElem?_push, Array.size_push]
    rw [if_neg (by omega), if_pos trivial]
  have h2 : W0.heap[w.heap.size + 2]? = some (.cells #[c0, c1, c2] T) := by
    rw [hW0]
    show (((w.heap.push _).push _).push _)[w.heap.size + 2]? = _
    simp only [Array.getElem?_push, Array.size_push]
    rw [if_pos trivial]
  obtain ⟨⟨p0, p1, p2⟩, _⟩ := num_block h0
  obtain ⟨⟨q0, q1, q2⟩, _⟩ := num_block h1
  obtain ⟨⟨r0, r1, r2⟩, _⟩ := num_block h2
  exact ⟨⟨p0, p1, p2, q0, q1, q2, r0, r1, r2⟩, hW0 ▸ ((((Gr.refl w).alloc _).alloc _).alloc _).drew⟩
theorem keep9 {w wo wn : World} {a0 a1 a2 b0 b1 b2 c0 c1 c2 : Value} (g : Gr wo wn) (h : (wo.cell? ⟨w.heap.size, 0, none⟩ = some a0 ∧ wo.cell? ⟨w.heap.size, 1, none⟩ = some a1 ∧ wo.cell? ⟨w.heap.size, 2, none⟩ = some a2 ∧ wo.cell? ⟨w.heap.size + 1, 0, none⟩ = some b0 ∧ wo.cell? ⟨w.heap.size + 1, 1, none⟩ = some b1 ∧ wo.cell? ⟨w.heap.size + 1, 2, none⟩ = some b2 ∧ wo.cell? ⟨w.heap.size + 2, 0, none⟩ = some c0 ∧ wo.cell? ⟨w.heap.size + 2, 1, none⟩ = some c1 ∧ wo.cell? ⟨w.heap.size + 2, 2, none⟩ = some c2) ∧ Gr w wo) :
    (wn.cell? ⟨w.heap.size, 0, none⟩ = some a0 ∧ wn.cell? ⟨w.heap.size, 1, none⟩ = some a1 ∧ wn.cell? ⟨w.heap.size, 2, none⟩ = some a2 ∧ wn.cell? ⟨w.heap.size + 1, 0, none⟩ = some b0 ∧ wn.cell? ⟨w.heap.size + 1, 1, none⟩ = some b1 ∧ wn.cell? ⟨w.heap.size + 1, 2, none⟩ = some b2 ∧ wn.cell? ⟨w.heap.size + 2, 0, none⟩ = some c0 ∧ wn.cell? ⟨w.heap.size + 2, 1, none⟩ = some c1 ∧ wn.cell? ⟨w.heap.size + 2, 2, none⟩ = some c2) ∧ Gr w wn := by
  obtain ⟨⟨h0, h1, h2, h3, h4, h5, h6, h7, h8⟩, hg⟩ := h
  exact ⟨⟨g.keep h0, g.keep h1, g.keep h2, g.keep h3, g.keep h4, g.keep h5, g.keep h6, g.keep h7, g.keep h8⟩, hg.trans g⟩
theorem rkfin25 (s : Bool) (r : Nat) (w : World) (h : r < 9218868437227405312) : Calls Try.prog 25 #[.float .f64 (W s r)] w fun e w' => e = .returned (.bool true) ∧ w' = w := by
  have h1 := sub_run w _ _ _ (sub_self s r h)
  have h2 : (FloatKind.f64.format.order 0 0 == some .eq) = true := by decide +kernel
  go_enter Try.func25, Try.ntmps25
  go_wp2
  go_ret
  exact ⟨rfl, rfl⟩
theorem rkfin25_not (s : Bool) (r : Nat) (w : World) (h : r < 9223372036854775808) (hi : 9218868437227405312 ≤ r) : Calls Try.prog 25 #[.float .f64 (W s r)] w fun e w' => e = .returned (.bool false) ∧ w' = w.drew := by
  have h0 : double.sub (W s r) (W s r) = none := by
    by_cases hn : 9218868437227405312 < r
    · exact sub_nan s r _ h hn
    · have : r = 9218868437227405312 := by omega
      subst this
      exact sub_inf s
  obtain ⟨y, h1, h2⟩ := run_float_nan .sub (by simp) 22 (W s r) (W s r) w h0
  have h3 := nan_order y 0 h2
  go_enter Try.func25, Try.ntmps25
  go_wp2
  go_ret
  exact ⟨rfl, rfl⟩
theorem pick22 (x : Int) (w : World) (h1 : -9223372036854775808 ≤ x) (h2 : x ≤ 9223372036854775807) :
    Calls Try.prog 22 #[.int .i64 x, .int .i64 5] w fun e w' => e = .returned (.int .i64 (x % 5)) ∧ w' = w := by
  by_cases hx : 0 ≤ x
  · go_enter Try.func22, Try.ntmps22
    go_wp2
    go_ret
    exact ⟨rfl, rfl⟩
  · have e : x.tmod 5 = -((-x) % 5) := by
      rw [show x = -(-x) by omega, Int.neg_tmod, Int.tmod_eq_emod_of_nonneg (by omega)]; simp
    by_cases h0 : (-x) % 5 = 0
    · have e' : x.tmod 5 = 0 := by rw [e, h0]; rfl
      have e5 : x % 5 = 0 := by omega
      go_enter Try.func22, Try.ntmps22
      go_wp2
      go_ret
      exact ⟨by simp, rfl⟩
    · have hl : x.tmod 5 < 0 := by omega
      have hg : -5 < x.tmod 5 := by omega
      have e5 : Hid (x.tmod 5 + 5 = x % 5) := by show _ = _; omega
      clear e h0
      go_enter Try.func22, Try.ntmps22
      go_wp2
      go_ret
      exact ⟨ret_i64 e5.out, rfl⟩

set_option maxHeartbeats 1600000 in
theorem ag_0 (x y t : Nat) (k : Int) (w : World) (s1 s2 s3 : Bool) (m1 m2 m3 : Nat) (e1 e2 e3 : Int) (Q : World → Bool → Option Addr → Nat → Nat → Nat → Int → Prop)
    (HF1 : Hid (∀ w1, Calls Try.prog 41 #[.float .f64 x] w1 fun res w' => ∃ ad n cap, res = .returned (.agg #[.bool s1, .slice ad n cap, .int .i64 e1]) ∧ Lim w' ad n cap 18446744073709551616 m1 ∧ Gr w1 w')) (HF2 : Hid (∀ w1, Calls Try.prog 41 #[.float .f64 y] w1 fun res w' => ∃ ad n cap, res = .returned (.agg #[.bool s2, .slice ad n cap, .int .i64 e2]) ∧ Lim w' ad n cap 18446744073709551616 m2 ∧ Gr w1 w')) (HF3 : Hid (∀ w1, Calls Try.prog 41 #[.float .f64 t] w1 fun res w' => ∃ ad n cap, res = .returned (.agg #[.bool s3, .slice ad n cap, .int .i64 e3]) ∧ Lim w' ad n cap 18446744073709551616 m3 ∧ Gr w1 w'))
    (HP : Hid (∀ w1 p1 l1 q1 p2 l2 q2 p3 l3 q3, Lim w1 p1 l1 q1 18446744073709551616 m1 → Lim w1 p2 l2 q2 18446744073709551616 m2 → Lim w1 p3 l3 q3 18446744073709551616 m3 → Calls Try.prog 40 #[.agg #[.bool s1, .slice p1 l1 q1, .int .i64 e1], .agg #[.bool s2, .slice p2 l2 q2, .int .i64 e2]] w1 fun r w' => ∃ neg ad n cap m g, r = .returned (.agg #[.bool neg, .slice ad n cap, .int .i64 g]) ∧ Q w' neg ad n cap m g ∧ Gr w1 w'))
    (HC : Hid (∀ w1 p1 l1 q1 p2 l2 q2 p3 l3 q3 neg ad n cap m g, Lim w1 p1 l1 q1 18446744073709551616 m1 → Lim w1 p2 l2 q2 18446744073709551616 m2 → Lim w1 p3 l3 q3 18446744073709551616 m3 → Q w1 neg ad n cap m g → Calls Try.prog 45 #[.agg #[.bool s3, .slice p3 l3 q3, .int .i64 e3], .agg #[.bool neg, .slice ad n cap, .int .i64 g]] w1 fun r w' => r = .returned (.int .i64 k) ∧ Gr w1 w')) :
    Calls Try.prog 26 #[.int .i64 0, .float .f64 x, .float .f64 y, .float .f64 t] w fun r w' => r = .returned (.int .i64 k) ∧ Gr w w' := by
  have tok1 : True := trivial
  have tok2 : True := trivial
  go_enter Try.func26, Try.ntmps26
  go_wp2_with (first | (go_at_call 41; have _t := tok1; with_reducible refine (HF1.out _).mono ?_; rintro r w1 ⟨p1, l1, q1, rfl, hl1, g1⟩; clear tok1) | (go_at_call 41; have _t := tok2; with_reducible refine (HF2.out _).mono ?_; rintro r w2 ⟨p2, l2, q2, rfl, hl2, g2⟩; clear tok2) | (go_at_call 41; with_reducible refine (HF3.out _).mono ?_; rintro r w3 ⟨p3, l3, q3, rfl, hl3, g3⟩))
  obtain ⟨W0, hW0⟩ : ∃ W0, W0 = ((w3.alloc (.cells #[.bool s1, .slice p1 l1 q1, .int .i64 e1] 51)).alloc (.cells #[.bool s2, .slice p2 l2 q2, .int .i64 e2] 51)).alloc (.cells #[.bool s3, .slice p3 l3 q3, .int .i64 e3] 51) := ⟨_, rfl⟩
  rw [← hW0]
  have hS0 : (W0.drew.cell? ⟨w3.heap.size, 0, none⟩ = some (.bool s1) ∧ W0.drew.cell? ⟨w3.heap.size, 1, none⟩ = some (.slice p1 l1 q1) ∧ W0.drew.cell? ⟨w3.heap.size, 2, none⟩ = some (.int .i64 e1) ∧ W0.drew.cell? ⟨w3.heap.size + 1, 0, none⟩ = some (.bool s2) ∧ W0.drew.cell? ⟨w3.heap.size + 1, 1, none⟩ = some (.slice p2 l2 q2) ∧ W0.drew.cell? ⟨w3.heap.size + 1, 2, none⟩ = some (.int .i64 e2) ∧ W0.drew.cell? ⟨w3.heap.size + 2, 0, none⟩ = some (.bool s3) ∧ W0.drew.cell? ⟨w3.heap.size + 2, 1, none⟩ = some (.slice p3 l3 q3) ∧ W0.drew.cell? ⟨w3.heap.size + 2, 2, none⟩ = some (.int .i64 e3)) ∧ Gr w3 W0.drew := boxes9 w3 51 _ _ _ _ _ _ _ _ _ W0 hW0
  clear hW0
  have hm1 := hl1.gr (g2.trans g3)
  have hm2 := hl2.gr g3
  go_region_held3 (fun w' => (w'.cell? ⟨w3.heap.size, 0, none⟩ = some (.bool s1) ∧ w'.cell? ⟨w3.heap.size, 1, none⟩ = some (.slice p1 l1 q1) ∧ w'.cell? ⟨w3.heap.size, 2, none⟩ = some (.int .i64 e1) ∧ w'.cell? ⟨w3.heap.size + 1, 0, none⟩ = some (.bool s2) ∧ w'.cell? ⟨w3.heap.size + 1, 1, none⟩ = some (.slice p2 l2 q2) ∧ w'.cell? ⟨w3.heap.size + 1, 2, none⟩ = some (.int .i64 e2) ∧ w'.cell? ⟨w3.heap.size + 2, 0, none⟩ = some (.bool s3) ∧ w'.cell? ⟨w3.heap.size + 2, 1, none⟩ = some (.slice p3 l3 q3) ∧ w'.cell? ⟨w3.heap.size + 2, 2, none⟩ = some (.int .i64 e3)) ∧ Gr w3 w') (first | (with_reducible assumption) | (apply keep9; (with_reducible assumption); (with_reducible assumption))) (first | (go_at_call 40; refine (HP.out _ _ _ _ _ _ _ _ _ _ (hm1.gr (And.right ‹_ ∧ Gr w3 _›)) (hm2.gr (And.right ‹_ ∧ Gr w3 _›)) (hl3.gr (And.right ‹_ ∧ Gr w3 _›))).mono ?_; rintro r w4 ⟨neg, ad, n, cap, m, g, rfl, hq, g4⟩) | (go_at_call 45; refine (HC.out _ _ _ _ _ _ _ _ _ _ _ _ _ _ _ _ (hm1.gr (And.right ‹_ ∧ Gr w3 _›)) (hm2.gr (And.right ‹_ ∧ Gr w3 _›)) (hl3.gr (And.right ‹_ ∧ Gr w3 _›)) hq).mono ?_; rintro r w5 ⟨rfl, g5⟩))
  have hS5 := keep9 (g4.trans g5) hS0
  go_wp2
  go_ret
  exact ⟨rfl, ((g1.trans g2).trans g3).trans hS5.2⟩

set_option maxHeartbeats 1600000 in
theorem ag_1 (x y t : Nat) (k : Int) (w : World) (s1 s2 s3 : Bool) (m1 m2 m3 : Nat) (e1 e2 e3 : Int) (Q : World → Bool → Option Addr → Nat → Nat → Nat → Int → Prop)
    (HF1 : Hid (∀ w1, Calls Try.prog 41 #[.float .f64 x] w1 fun res w' => ∃ ad n cap, res = .returned (.agg #[.bool s1, .slice ad n cap, .int .i64 e1]) ∧ Lim w' ad n cap 18446744073709551616 m1 ∧ Gr w1 w')) (HF2 : Hid (∀ w1, Calls Try.prog 41 #[.float .f64 y] w1 fun res w' => ∃ ad n cap, res = .returned (.agg #[.bool s2, .slice ad n cap, .int .i64 e2]) ∧ Lim w' ad n cap 18446744073709551616 m2 ∧ Gr w1 w')) (HF3 : Hid (∀ w1, Calls Try.prog 41 #[.float .f64 t] w1 fun res w' => ∃ ad n cap, res = .returned (.agg #[.bool s3, .slice ad n cap, .int .i64 e3]) ∧ Lim w' ad n cap 18446744073709551616 m3 ∧ Gr w1 w'))
    (HP : Hid (∀ w1 p1 l1 q1 p2 l2 q2 p3 l3 q3, Lim w1 p1 l1 q1 18446744073709551616 m1 → Lim w1 p2 l2 q2 18446744073709551616 m2 → Lim w1 p3 l3 q3 18446744073709551616 m3 → Calls Try.prog 49 #[.agg #[.bool s1, .slice p1 l1 q1, .int .i64 e1], .agg #[.bool s2, .slice p2 l2 q2, .int .i64 e2]] w1 fun r w' => ∃ neg ad n cap m g, r = .returned (.agg #[.bool neg, .slice ad n cap, .int .i64 g]) ∧ Q w' neg ad n cap m g ∧ Gr w1 w'))
    (HC : Hid (∀ w1 p1 l1 q1 p2 l2 q2 p3 l3 q3 neg ad n cap m g, Lim w1 p1 l1 q1 18446744073709551616 m1 → Lim w1 p2 l2 q2 18446744073709551616 m2 → Lim w1 p3 l3 q3 18446744073709551616 m3 → Q w1 neg ad n cap m g → Calls Try.prog 45 #[.agg #[.bool s3, .slice p3 l3 q3, .int .i64 e3], .agg #[.bool neg, .slice ad n cap, .int .i64 g]] w1 fun r w' => r = .returned (.int .i64 k) ∧ Gr w1 w')) :
    Calls Try.prog 26 #[.int .i64 1, .float .f64 x, .float .f64 y, .float .f64 t] w fun r w' => r = .returned (.int .i64 k) ∧ Gr w w' := by
  have tok1 : True := trivial
  have tok2 : True := trivial
  go_enter Try.func26, Try.ntmps26
  go_wp2_with (first | (go_at_call 41; have _t := tok1; with_reducible refine (HF1.out _).mono ?_; rintro r w1 ⟨p1, l1, q1, rfl, hl1, g1⟩; clear tok1) | (go_at_call 41; have _t := tok2; with_reducible refine (HF2.out _).mono ?_; rintro r w2 ⟨p2, l2, q2, rfl, hl2, g2⟩; clear tok2) | (go_at_call 41; with_reducible refine (HF3.out _).mono ?_; rintro r w3 ⟨p3, l3, q3, rfl, hl3, g3⟩))
  obtain ⟨W0, hW0⟩ : ∃ W0, W0 = ((w3.alloc (.cells #[.bool s1, .slice p1 l1 q1, .int .i64 e1] 51)).alloc (.cells #[.bool s2, .slice p2 l2 q2, .int .i64 e2] 51)).alloc (.cells #[.bool s3, .slice p3 l3 q3, .int .i64 e3] 51) := ⟨_, rfl⟩
  rw [← hW0]
  have hS0 : (W0.drew.cell? ⟨w3.heap.size, 0, none⟩ = some (.bool s1) ∧ W0.drew.cell? ⟨w3.heap.size, 1, none⟩ = some (.slice p1 l1 q1) ∧ W0.drew.cell? ⟨w3.heap.size, 2, none⟩ = some (.int .i64 e1) ∧ W0.drew.cell? ⟨w3.heap.size + 1, 0, none⟩ = some (.bool s2) ∧ W0.drew.cell? ⟨w3.heap.size + 1, 1, none⟩ = some (.slice p2 l2 q2) ∧ W0.drew.cell? ⟨w3.heap.size + 1, 2, none⟩ = some (.int .i64 e2) ∧ W0.drew.cell? ⟨w3.heap.size + 2, 0, none⟩ = some (.bool s3) ∧ W0.drew.cell? ⟨w3.heap.size + 2, 1, none⟩ = some (.slice p3 l3 q3) ∧ W0.drew.cell? ⟨w3.heap.size + 2, 2, none⟩ = some (.int .i64 e3)) ∧ Gr w3 W0.drew := boxes9 w3 51 _ _ _ _ _ _ _ _ _ W0 hW0
  clear hW0
  have hm1 := hl1.gr (g2.trans g3)
  have hm2 := hl2.gr g3
  go_region_held3 (fun w' => (w'.cell? ⟨w3.heap.size, 0, none⟩ = some (.bool s1) ∧ w'.cell? ⟨w3.heap.size, 1, none⟩ = some (.slice p1 l1 q1) ∧ w'.cell? ⟨w3.heap.size, 2, none⟩ = some (.int .i64 e1) ∧ w'.cell? ⟨w3.heap.size + 1, 0, none⟩ = some (.bool s2) ∧ w'.cell? ⟨w3.heap.size + 1, 1, none⟩ = some (.slice p2 l2 q2) ∧ w'.cell? ⟨w3.heap.size + 1, 2, none⟩ = some (.int .i64 e2) ∧ w'.cell? ⟨w3.heap.size + 2, 0, none⟩ = some (.bool s3) ∧ w'.cell? ⟨w3.heap.size + 2, 1, none⟩ = some (.slice p3 l3 q3) ∧ w'.cell? ⟨w3.heap.size + 2, 2, none⟩ = some (.int .i64 e3)) ∧ Gr w3 w') (first | (with_reducible assumption) | (apply keep9; (with_reducible assumption); (with_reducible assumption))) (first | (go_at_call 49; refine (HP.out _ _ _ _ _ _ _ _ _ _ (hm1.gr (And.right ‹_ ∧ Gr w3 _›)) (hm2.gr (And.right ‹_ ∧ Gr w3 _›)) (hl3.gr (And.right ‹_ ∧ Gr w3 _›))).mono ?_; rintro r w4 ⟨neg, ad, n, cap, m, g, rfl, hq, g4⟩) | (go_at_call 45; refine (HC.out _ _ _ _ _ _ _ _ _ _ _ _ _ _ _ _ (hm1.gr (And.right ‹_ ∧ Gr w3 _›)) (hm2.gr (And.right ‹_ ∧ Gr w3 _›)) (hl3.gr (And.right ‹_ ∧ Gr w3 _›)) hq).mono ?_; rintro r w5 ⟨rfl, g5⟩))
  have hS5 := keep9 (g4.trans g5) hS0
  go_wp2
  go_ret
  exact ⟨rfl, ((g1.trans g2).trans g3).trans hS5.2⟩

set_option maxHeartbeats 1600000 in
theorem ag_2 (x y t : Nat) (k : Int) (w : World) (s1 s2 s3 : Bool) (m1 m2 m3 : Nat) (e1 e2 e3 : Int) (Q : World → Bool → Option Addr → Nat → Nat → Nat → Int → Prop)
    (HF1 : Hid (∀ w1, Calls Try.prog 41 #[.float .f64 x] w1 fun res w' => ∃ ad n cap, res = .returned (.agg #[.bool s1, .slice ad n cap, .int .i64 e1]) ∧ Lim w' ad n cap 18446744073709551616 m1 ∧ Gr w1 w')) (HF2 : Hid (∀ w1, Calls Try.prog 41 #[.float .f64 y] w1 fun res w' => ∃ ad n cap, res = .returned (.agg #[.bool s2, .slice ad n cap, .int .i64 e2]) ∧ Lim w' ad n cap 18446744073709551616 m2 ∧ Gr w1 w')) (HF3 : Hid (∀ w1, Calls Try.prog 41 #[.float .f64 t] w1 fun res w' => ∃ ad n cap, res = .returned (.agg #[.bool s3, .slice ad n cap, .int .i64 e3]) ∧ Lim w' ad n cap 18446744073709551616 m3 ∧ Gr w1 w'))
    (HP : Hid (∀ w1 p1 l1 q1 p2 l2 q2 p3 l3 q3, Lim w1 p1 l1 q1 18446744073709551616 m1 → Lim w1 p2 l2 q2 18446744073709551616 m2 → Lim w1 p3 l3 q3 18446744073709551616 m3 → Calls Try.prog 43 #[.agg #[.bool s1, .slice p1 l1 q1, .int .i64 e1], .agg #[.bool s2, .slice p2 l2 q2, .int .i64 e2]] w1 fun r w' => ∃ neg ad n cap m g, r = .returned (.agg #[.bool neg, .slice ad n cap, .int .i64 g]) ∧ Q w' neg ad n cap m g ∧ Gr w1 w'))
    (HC : Hid (∀ w1 p1 l1 q1 p2 l2 q2 p3 l3 q3 neg ad n cap m g, Lim w1 p1 l1 q1 18446744073709551616 m1 → Lim w1 p2 l2 q2 18446744073709551616 m2 → Lim w1 p3 l3 q3 18446744073709551616 m3 → Q w1 neg ad n cap m g → Calls Try.prog 45 #[.agg #[.bool s3, .slice p3 l3 q3, .int .i64 e3], .agg #[.bool neg, .slice ad n cap, .int .i64 g]] w1 fun r w' => r = .returned (.int .i64 k) ∧ Gr w1 w')) :
    Calls Try.prog 26 #[.int .i64 2, .float .f64 x, .float .f64 y, .float .f64 t] w fun r w' => r = .returned (.int .i64 k) ∧ Gr w w' := by
  have tok1 : True := trivial
  have tok2 : True := trivial
  go_enter Try.func26, Try.ntmps26
  go_wp2_with (first | (go_at_call 41; have _t := tok1; with_reducible refine (HF1.out _).mono ?_; rintro r w1 ⟨p1, l1, q1, rfl, hl1, g1⟩; clear tok1) | (go_at_call 41; have _t := tok2; with_reducible refine (HF2.out _).mono ?_; rintro r w2 ⟨p2, l2, q2, rfl, hl2, g2⟩; clear tok2) | (go_at_call 41; with_reducible refine (HF3.out _).mono ?_; rintro r w3 ⟨p3, l3, q3, rfl, hl3, g3⟩))
  obtain ⟨W0, hW0⟩ : ∃ W0, W0 = ((w3.alloc (.cells #[.bool s1, .slice p1 l1 q1, .int .i64 e1] 51)).alloc (.cells #[.bool s2, .slice p2 l2 q2, .int .i64 e2] 51)).alloc (.cells #[.bool s3, .slice p3 l3 q3, .int .i64 e3] 51) := ⟨_, rfl⟩
  rw [← hW0]
  have hS0 : (W0.drew.cell? ⟨w3.heap.size, 0, none⟩ = some (.bool s1) ∧ W0.drew.cell? ⟨w3.heap.size, 1, none⟩ = some (.slice p1 l1 q1) ∧ W0.drew.cell? ⟨w3.heap.size, 2, none⟩ = some (.int .i64 e1) ∧ W0.drew.cell? ⟨w3.heap.size + 1, 0, none⟩ = some (.bool s2) ∧ W0.drew.cell? ⟨w3.heap.size + 1, 1, none⟩ = some (.slice p2 l2 q2) ∧ W0.drew.cell? ⟨w3.heap.size + 1, 2, none⟩ = some (.int .i64 e2) ∧ W0.drew.cell? ⟨w3.heap.size + 2, 0, none⟩ = some (.bool s3) ∧ W0.drew.cell? ⟨w3.heap.size + 2, 1, none⟩ = some (.slice p3 l3 q3) ∧ W0.drew.cell? ⟨w3.heap.size + 2, 2, none⟩ = some (.int .i64 e3)) ∧ Gr w3 W0.drew := boxes9 w3 51 _ _ _ _ _ _ _ _ _ W0 hW0
  clear hW0
  have hm1 := hl1.gr (g2.trans g3)
  have hm2 := hl2.gr g3
  go_region_held3 (fun w' => (w'.cell? ⟨w3.heap.size, 0, none⟩ = some (.bool s1) ∧ w'.cell? ⟨w3.heap.size, 1, none⟩ = some (.slice p1 l1 q1) ∧ w'.cell? ⟨w3.heap.size, 2, none⟩ = some (.int .i64 e1) ∧ w'.cell? ⟨w3.heap.size + 1, 0, none⟩ = some (.bool s2) ∧ w'.cell? ⟨w3.heap.size + 1, 1, none⟩ = some (.slice p2 l2 q2) ∧ w'.cell? ⟨w3.heap.size + 1, 2, none⟩ = some (.int .i64 e2) ∧ w'.cell? ⟨w3.heap.size + 2, 0, none⟩ = some (.bool s3) ∧ w'.cell? ⟨w3.heap.size + 2, 1, none⟩ = some (.slice p3 l3 q3) ∧ w'.cell? ⟨w3.heap.size + 2, 2, none⟩ = some (.int .i64 e3)) ∧ Gr w3 w') (first | (with_reducible assumption) | (apply keep9; (with_reducible assumption); (with_reducible assumption))) (first | (go_at_call 43; refine (HP.out _ _ _ _ _ _ _ _ _ _ (hm1.gr (And.right ‹_ ∧ Gr w3 _›)) (hm2.gr (And.right ‹_ ∧ Gr w3 _›)) (hl3.gr (And.right ‹_ ∧ Gr w3 _›))).mono ?_; rintro r w4 ⟨neg, ad, n, cap, m, g, rfl, hq, g4⟩) | (go_at_call 45; refine (HC.out _ _ _ _ _ _ _ _ _ _ _ _ _ _ _ _ (hm1.gr (And.right ‹_ ∧ Gr w3 _›)) (hm2.gr (And.right ‹_ ∧ Gr w3 _›)) (hl3.gr (And.right ‹_ ∧ Gr w3 _›)) hq).mono ?_; rintro r w5 ⟨rfl, g5⟩))
  have hS5 := keep9 (g4.trans g5) hS0
  go_wp2
  go_ret
  exact ⟨rfl, ((g1.trans g2).trans g3).trans hS5.2⟩

set_option maxHeartbeats 1600000 in
theorem ag_3n (x y t : Nat) (k : Int) (w : World) (s1 s2 s3 : Bool) (m1 m2 m3 : Nat) (e1 e2 e3 : Int) (Q : World → Bool → Option Addr → Nat → Nat → Nat → Int → Prop)
    (HF1 : Hid (∀ w1, Calls Try.prog 41 #[.float .f64 x] w1 fun res w' => ∃ ad n cap, res = .returned (.agg #[.bool s1, .slice ad n cap, .int .i64 e1]) ∧ Lim w' ad n cap 18446744073709551616 m1 ∧ Gr w1 w')) (HF2 : Hid (∀ w1, Calls Try.prog 41 #[.float .f64 y] w1 fun res w' => ∃ ad n cap, res = .returned (.agg #[.bool s2, .slice ad n cap, .int .i64 e2]) ∧ Lim w' ad n cap 18446744073709551616 m2 ∧ Gr w1 w')) (HF3 : Hid (∀ w1, Calls Try.prog 41 #[.float .f64 t] w1 fun res w' => ∃ ad n cap, res = .returned (.agg #[.bool s3, .slice ad n cap, .int .i64 e3]) ∧ Lim w' ad n cap 18446744073709551616 m3 ∧ Gr w1 w'))
    (HP : Hid (∀ w1 p1 l1 q1 p2 l2 q2 p3 l3 q3, Lim w1 p1 l1 q1 18446744073709551616 m1 → Lim w1 p2 l2 q2 18446744073709551616 m2 → Lim w1 p3 l3 q3 18446744073709551616 m3 → Calls Try.prog 43 #[.agg #[.bool s3, .slice p3 l3 q3, .int .i64 e3], .agg #[.bool s2, .slice p2 l2 q2, .int .i64 e2]] w1 fun r w' => ∃ neg ad n cap m g, r = .returned (.agg #[.bool neg, .slice ad n cap, .int .i64 g]) ∧ Q w' neg ad n cap m g ∧ Gr w1 w'))
    (HC : Hid (∀ w1 p1 l1 q1 p2 l2 q2 p3 l3 q3 neg ad n cap m g, Lim w1 p1 l1 q1 18446744073709551616 m1 → Lim w1 p2 l2 q2 18446744073709551616 m2 → Lim w1 p3 l3 q3 18446744073709551616 m3 → Q w1 neg ad n cap m g → Calls Try.prog 45 #[.agg #[.bool s1, .slice p1 l1 q1, .int .i64 e1], .agg #[.bool neg, .slice ad n cap, .int .i64 g]] w1 fun r w' => r = .returned (.int .i64 k) ∧ Gr w1 w')) (hb : negB y = true) :
    Calls Try.prog 26 #[.int .i64 3, .float .f64 x, .float .f64 y, .float .f64 t] w fun r w' => r = .returned (.int .i64 k) ∧ Gr w w' := by
  unfold negB at hb
  have tok1 : True := trivial
  have tok2 : True := trivial
  go_enter Try.func26, Try.ntmps26
  go_wp2_with (first | (go_at_call 41; have _t := tok1; with_reducible refine (HF1.out _).mono ?_; rintro r w1 ⟨p1, l1, q1, rfl, hl1, g1⟩; clear tok1) | (go_at_call 41; have _t := tok2; with_reducible refine (HF2.out _).mono ?_; rintro r w2 ⟨p2, l2, q2, rfl, hl2, g2⟩; clear tok2) | (go_at_call 41; with_reducible refine (HF3.out _).mono ?_; rintro r w3 ⟨p3, l3, q3, rfl, hl3, g3⟩))
  obtain ⟨W0, hW0⟩ : ∃ W0, W0 = ((w3.alloc (.cells #[.bool s1, .slice p1 l1 q1, .int .i64 e1] 51)).alloc (.cells #[.bool s2, .slice p2 l2 q2, .int .i64 e2] 51)).alloc (.cells #[.bool s3, .slice p3 l3 q3, .int .i64 e3] 51) := ⟨_, rfl⟩
  rw [← hW0]
  have hS0 : (W0.drew.cell? ⟨w3.heap.size, 0, none⟩ = some (.bool s1) ∧ W0.drew.cell? ⟨w3.heap.size, 1, none⟩ = some (.slice p1 l1 q1) ∧ W0.drew.cell? ⟨w3.heap.size, 2, none⟩ = some (.int .i64 e1) ∧ W0.drew.cell? ⟨w3.heap.size + 1, 0, none⟩ = some (.bool s2) ∧ W0.drew.cell? ⟨w3.heap.size + 1, 1, none⟩ = some (.slice p2 l2 q2) ∧ W0.drew.cell? ⟨w3.heap.size + 1, 2, none⟩ = some (.int .i64 e2) ∧ W0.drew.cell? ⟨w3.heap.size + 2, 0, none⟩ = some (.bool s3) ∧ W0.drew.cell? ⟨w3.heap.size + 2, 1, none⟩ = some (.slice p3 l3 q3) ∧ W0.drew.cell? ⟨w3.heap.size + 2, 2, none⟩ = some (.int .i64 e3)) ∧ Gr w3 W0.drew := boxes9 w3 51 _ _ _ _ _ _ _ _ _ W0 hW0
  clear hW0
  have hm1 := hl1.gr (g2.trans g3)
  have hm2 := hl2.gr g3
  go_region_held3 (fun w' => (w'.cell? ⟨w3.heap.size, 0, none⟩ = some (.bool s1) ∧ w'.cell? ⟨w3.heap.size, 1, none⟩ = some (.slice p1 l1 q1) ∧ w'.cell? ⟨w3.heap.size, 2, none⟩ = some (.int .i64 e1) ∧ w'.cell? ⟨w3.heap.size + 1, 0, none⟩ = some (.bool s2) ∧ w'.cell? ⟨w3.heap.size + 1, 1, none⟩ = some (.slice p2 l2 q2) ∧ w'.cell? ⟨w3.heap.size + 1, 2, none⟩ = some (.int .i64 e2) ∧ w'.cell? ⟨w3.heap.size + 2, 0, none⟩ = some (.bool s3) ∧ w'.cell? ⟨w3.heap.size + 2, 1, none⟩ = some (.slice p3 l3 q3) ∧ w'.cell? ⟨w3.heap.size + 2, 2, none⟩ = some (.int .i64 e3)) ∧ Gr w3 w') (first | (with_reducible assumption) | (apply keep9; (with_reducible assumption); (with_reducible assumption))) (first | (go_at_call 43; refine (HP.out _ _ _ _ _ _ _ _ _ _ (hm1.gr (And.right ‹_ ∧ Gr w3 _›)) (hm2.gr (And.right ‹_ ∧ Gr w3 _›)) (hl3.gr (And.right ‹_ ∧ Gr w3 _›))).mono ?_; rintro r w4 ⟨neg, ad, n, cap, m, g, rfl, hq, g4⟩) | (go_at_call 45; refine (HC.out _ _ _ _ _ _ _ _ _ _ _ _ _ _ _ _ (hm1.gr (And.right ‹_ ∧ Gr w3 _›)) (hm2.gr (And.right ‹_ ∧ Gr w3 _›)) (hl3.gr (And.right ‹_ ∧ Gr w3 _›)) hq).mono ?_; rintro r w5 ⟨rfl, g5⟩))
  have hS5 := keep9 (g4.trans g5) hS0
  go_wp2
  go_ret
  exact ⟨rfl, ((g1.trans g2).trans g3).trans hS5.2⟩

set_option maxHeartbeats 1600000 in
theorem ag_3p (x y t : Nat) (k : Int) (w : World) (s1 s2 s3 : Bool) (m1 m2 m3 : Nat) (e1 e2 e3 : Int) (Q : World → Bool → Option Addr → Nat → Nat → Nat → Int → Prop)
    (HF1 : Hid (∀ w1, Calls Try.prog 41 #[.float .f64 x] w1 fun res w' => ∃ ad n cap, res = .returned (.agg #[.bool s1, .slice ad n cap, .int .i64 e1]) ∧ Lim w' ad n cap 18446744073709551616 m1 ∧ Gr w1 w')) (HF2 : Hid (∀ w1, Calls Try.prog 41 #[.float .f64 y] w1 fun res w' => ∃ ad n cap, res = .returned (.agg #[.bool s2, .slice ad n cap, .int .i64 e2]) ∧ Lim w' ad n cap 18446744073709551616 m2 ∧ Gr w1 w')) (HF3 : Hid (∀ w1, Calls Try.prog 41 #[.float .f64 t] w1 fun res w' => ∃ ad n cap, res = .returned (.agg #[.bool s3, .slice ad n cap, .int .i64 e3]) ∧ Lim w' ad n cap 18446744073709551616 m3 ∧ Gr w1 w'))
    (HP : Hid (∀ w1 p1 l1 q1 p2 l2 q2 p3 l3 q3, Lim w1 p1 l1 q1 18446744073709551616 m1 → Lim w1 p2 l2 q2 18446744073709551616 m2 → Lim w1 p3 l3 q3 18446744073709551616 m3 → Calls Try.prog 43 #[.agg #[.bool s3, .slice p3 l3 q3, .int .i64 e3], .agg #[.bool s2, .slice p2 l2 q2, .int .i64 e2]] w1 fun r w' => ∃ neg ad n cap m g, r = .returned (.agg #[.bool neg, .slice ad n cap, .int .i64 g]) ∧ Q w' neg ad n cap m g ∧ Gr w1 w'))
    (HC : Hid (∀ w1 p1 l1 q1 p2 l2 q2 p3 l3 q3 neg ad n cap m g, Lim w1 p1 l1 q1 18446744073709551616 m1 → Lim w1 p2 l2 q2 18446744073709551616 m2 → Lim w1 p3 l3 q3 18446744073709551616 m3 → Q w1 neg ad n cap m g → Calls Try.prog 45 #[.agg #[.bool neg, .slice ad n cap, .int .i64 g], .agg #[.bool s1, .slice p1 l1 q1, .int .i64 e1]] w1 fun r w' => r = .returned (.int .i64 k) ∧ Gr w1 w')) (hb : negB y = false) :
    Calls Try.prog 26 #[.int .i64 3, .float .f64 x, .float .f64 y, .float .f64 t] w fun r w' => r = .returned (.int .i64 k) ∧ Gr w w' := by
  unfold negB at hb
  have tok1 : True := trivial
  have tok2 : True := trivial
  go_enter Try.func26, Try.ntmps26
  go_wp2_with (first | (go_at_call 41; have _t := tok1; with_reducible refine (HF1.out _).mono ?_; rintro r w1 ⟨p1, l1, q1, rfl, hl1, g1⟩; clear tok1) | (go_at_call 41; have _t := tok2; with_reducible refine (HF2.out _).mono ?_; rintro r w2 ⟨p2, l2, q2, rfl, hl2, g2⟩; clear tok2) | (go_at_call 41; with_reducible refine (HF3.out _).mono ?_; rintro r w3 ⟨p3, l3, q3, rfl, hl3, g3⟩))
  obtain ⟨W0, hW0⟩ : ∃ W0, W0 = ((w3.alloc (.cells #[.bool s1, .slice p1 l1 q1, .int .i64 e1] 51)).alloc (.cells #[.bool s2, .slice p2 l2 q2, .int .i64 e2] 51)).alloc (.cells #[.bool s3, .slice p3 l3 q3, .int .i64 e3] 51) := ⟨_, rfl⟩
  rw [← hW0]
  have hS0 : (W0.drew.cell? ⟨w3.heap.size, 0, none⟩ = some (.bool s1) ∧ W0.drew.cell? ⟨w3.heap.size, 1, none⟩ = some (.slice p1 l1 q1) ∧ W0.drew.cell? ⟨w3.heap.size, 2, none⟩ = some (.int .i64 e1) ∧ W0.drew.cell? ⟨w3.heap.size + 1, 0, none⟩ = some (.bool s2) ∧ W0.drew.cell? ⟨w3.heap.size + 1, 1, none⟩ = some (.slice p2 l2 q2) ∧ W0.drew.cell? ⟨w3.heap.size + 1, 2, none⟩ = some (.int .i64 e2) ∧ W0.drew.cell? ⟨w3.heap.size + 2, 0, none⟩ = some (.bool s3) ∧ W0.drew.cell? ⟨w3.heap.size + 2, 1, none⟩ = some (.slice p3 l3 q3) ∧ W0.drew.cell? ⟨w3.heap.size + 2, 2, none⟩ = some (.int .i64 e3)) ∧ Gr w3 W0.drew := boxes9 w3 51 _ _ _ _ _ _ _ _ _ W0 hW0
  clear hW0
  have hm1 := hl1.gr (g2.trans g3)
  have hm2 := hl2.gr g3
  go_region_held3 (fun w' => (w'.cell? ⟨w3.heap.size, 0, none⟩ = some (.bool s1) ∧ w'.cell? ⟨w3.heap.size, 1, none⟩ = some (.slice p1 l1 q1) ∧ w'.cell? ⟨w3.heap.size, 2, none⟩ = some (.int .i64 e1) ∧ w'.cell? ⟨w3.heap.size + 1, 0, none⟩ = some (.bool s2) ∧ w'.cell? ⟨w3.heap.size + 1, 1, none⟩ = some (.slice p2 l2 q2) ∧ w'.cell? ⟨w3.heap.size + 1, 2, none⟩ = some (.int .i64 e2) ∧ w'.cell? ⟨w3.heap.size + 2, 0, none⟩ = some (.bool s3) ∧ w'.cell? ⟨w3.heap.size + 2, 1, none⟩ = some (.slice p3 l3 q3) ∧ w'.cell? ⟨w3.heap.size + 2, 2, none⟩ = some (.int .i64 e3)) ∧ Gr w3 w') (first | (with_reducible assumption) | (apply keep9; (with_reducible assumption); (with_reducible assumption))) (first | (go_at_call 43; refine (HP.out _ _ _ _ _ _ _ _ _ _ (hm1.gr (And.right ‹_ ∧ Gr w3 _›)) (hm2.gr (And.right ‹_ ∧ Gr w3 _›)) (hl3.gr (And.right ‹_ ∧ Gr w3 _›))).mono ?_; rintro r w4 ⟨neg, ad, n, cap, m, g, rfl, hq, g4⟩) | (go_at_call 45; refine (HC.out _ _ _ _ _ _ _ _ _ _ _ _ _ _ _ _ (hm1.gr (And.right ‹_ ∧ Gr w3 _›)) (hm2.gr (And.right ‹_ ∧ Gr w3 _›)) (hl3.gr (And.right ‹_ ∧ Gr w3 _›)) hq).mono ?_; rintro r w5 ⟨rfl, g5⟩))
  have hS5 := keep9 (g4.trans g5) hS0
  go_wp2
  go_ret
  exact ⟨rfl, ((g1.trans g2).trans g3).trans hS5.2⟩

set_option maxHeartbeats 1600000 in
theorem ag_4 (x y t : Nat) (k : Int) (w : World) (s1 s2 s3 : Bool) (m1 m2 m3 : Nat) (e1 e2 e3 : Int) (Q : World → Bool → Option Addr → Nat → Nat → Nat → Int → Prop)
    (HF1 : Hid (∀ w1, Calls Try.prog 41 #[.float .f64 x] w1 fun res w' => ∃ ad n cap, res = .returned (.agg #[.bool s1, .slice ad n cap, .int .i64 e1]) ∧ Lim w' ad n cap 18446744073709551616 m1 ∧ Gr w1 w')) (HF2 : Hid (∀ w1, Calls Try.prog 41 #[.float .f64 y] w1 fun res w' => ∃ ad n cap, res = .returned (.agg #[.bool s2, .slice ad n cap, .int .i64 e2]) ∧ Lim w' ad n cap 18446744073709551616 m2 ∧ Gr w1 w')) (HF3 : Hid (∀ w1, Calls Try.prog 41 #[.float .f64 t] w1 fun res w' => ∃ ad n cap, res = .returned (.agg #[.bool s3, .slice ad n cap, .int .i64 e3]) ∧ Lim w' ad n cap 18446744073709551616 m3 ∧ Gr w1 w'))
    (HP : Hid (∀ w1 p1 l1 q1 p2 l2 q2 p3 l3 q3, Lim w1 p1 l1 q1 18446744073709551616 m1 → Lim w1 p2 l2 q2 18446744073709551616 m2 → Lim w1 p3 l3 q3 18446744073709551616 m3 → Calls Try.prog 43 #[.agg #[.bool s3, .slice p3 l3 q3, .int .i64 e3], .agg #[.bool s3, .slice p3 l3 q3, .int .i64 e3]] w1 fun r w' => ∃ neg ad n cap m g, r = .returned (.agg #[.bool neg, .slice ad n cap, .int .i64 g]) ∧ Q w' neg ad n cap m g ∧ Gr w1 w'))
    (HC : Hid (∀ w1 p1 l1 q1 p2 l2 q2 p3 l3 q3 neg ad n cap m g, Lim w1 p1 l1 q1 18446744073709551616 m1 → Lim w1 p2 l2 q2 18446744073709551616 m2 → Lim w1 p3 l3 q3 18446744073709551616 m3 → Q w1 neg ad n cap m g → Calls Try.prog 45 #[.agg #[.bool neg, .slice ad n cap, .int .i64 g], .agg #[.bool s1, .slice p1 l1 q1, .int .i64 e1]] w1 fun r w' => r = .returned (.int .i64 k) ∧ Gr w1 w')) (hb : negB t = false) :
    Calls Try.prog 26 #[.int .i64 4, .float .f64 x, .float .f64 y, .float .f64 t] w fun r w' => r = .returned (.int .i64 k) ∧ Gr w w' := by
  unfold negB at hb
  have tok1 : True := trivial
  have tok2 : True := trivial
  go_enter Try.func26, Try.ntmps26
  go_wp2_with (first | (go_at_call 41; have _t := tok1; with_reducible refine (HF1.out _).mono ?_; rintro r w1 ⟨p1, l1, q1, rfl, hl1, g1⟩; clear tok1) | (go_at_call 41; have _t := tok2; with_reducible refine (HF2.out _).mono ?_; rintro r w2 ⟨p2, l2, q2, rfl, hl2, g2⟩; clear tok2) | (go_at_call 41; with_reducible refine (HF3.out _).mono ?_; rintro r w3 ⟨p3, l3, q3, rfl, hl3, g3⟩))
  obtain ⟨W0, hW0⟩ : ∃ W0, W0 = ((w3.alloc (.cells #[.bool s1, .slice p1 l1 q1, .int .i64 e1] 51)).alloc (.cells #[.bool s2, .slice p2 l2 q2, .int .i64 e2] 51)).alloc (.cells #[.bool s3, .slice p3 l3 q3, .int .i64 e3] 51) := ⟨_, rfl⟩
  rw [← hW0]
  have hS0 : (W0.drew.cell? ⟨w3.heap.size, 0, none⟩ = some (.bool s1) ∧ W0.drew.cell? ⟨w3.heap.size, 1, none⟩ = some (.slice p1 l1 q1) ∧ W0.drew.cell? ⟨w3.heap.size, 2, none⟩ = some (.int .i64 e1) ∧ W0.drew.cell? ⟨w3.heap.size + 1, 0, none⟩ = some (.bool s2) ∧ W0.drew.cell? ⟨w3.heap.size + 1, 1, none⟩ = some (.slice p2 l2 q2) ∧ W0.drew.cell? ⟨w3.heap.size + 1, 2, none⟩ = some (.int .i64 e2) ∧ W0.drew.cell? ⟨w3.heap.size + 2, 0, none⟩ = some (.bool s3) ∧ W0.drew.cell? ⟨w3.heap.size + 2, 1, none⟩ = some (.slice p3 l3 q3) ∧ W0.drew.cell? ⟨w3.heap.size + 2, 2, none⟩ = some (.int .i64 e3)) ∧ Gr w3 W0.drew := boxes9 w3 51 _ _ _ _ _ _ _ _ _ W0 hW0
  clear hW0
  have hm1 := hl1.gr (g2.trans g3)
  have hm2 := hl2.gr g3
  go_region_held3 (fun w' => (w'.cell? ⟨w3.heap.size, 0, none⟩ = some (.bool s1) ∧ w'.cell? ⟨w3.heap.size, 1, none⟩ = some (.slice p1 l1 q1) ∧ w'.cell? ⟨w3.heap.size, 2, none⟩ = some (.int .i64 e1) ∧ w'.cell? ⟨w3.heap.size + 1, 0, none⟩ = some (.bool s2) ∧ w'.cell? ⟨w3.heap.size + 1, 1, none⟩ = some (.slice p2 l2 q2) ∧ w'.cell? ⟨w3.heap.size + 1, 2, none⟩ = some (.int .i64 e2) ∧ w'.cell? ⟨w3.heap.size + 2, 0, none⟩ = some (.bool s3) ∧ w'.cell? ⟨w3.heap.size + 2, 1, none⟩ = some (.slice p3 l3 q3) ∧ w'.cell? ⟨w3.heap.size + 2, 2, none⟩ = some (.int .i64 e3)) ∧ Gr w3 w') (first | (with_reducible assumption) | (apply keep9; (with_reducible assumption); (with_reducible assumption))) (first | (go_at_call 43; refine (HP.out _ _ _ _ _ _ _ _ _ _ (hm1.gr (And.right ‹_ ∧ Gr w3 _›)) (hm2.gr (And.right ‹_ ∧ Gr w3 _›)) (hl3.gr (And.right ‹_ ∧ Gr w3 _›))).mono ?_; rintro r w4 ⟨neg, ad, n, cap, m, g, rfl, hq, g4⟩) | (go_at_call 45; refine (HC.out _ _ _ _ _ _ _ _ _ _ _ _ _ _ _ _ (hm1.gr (And.right ‹_ ∧ Gr w3 _›)) (hm2.gr (And.right ‹_ ∧ Gr w3 _›)) (hl3.gr (And.right ‹_ ∧ Gr w3 _›)) hq).mono ?_; rintro r w5 ⟨rfl, g5⟩))
  have hS5 := keep9 (g4.trans g5) hS0
  go_wp2
  go_ret
  exact ⟨rfl, ((g1.trans g2).trans g3).trans hS5.2⟩
end Go.Proofs.Yteompnpfoplppaa
