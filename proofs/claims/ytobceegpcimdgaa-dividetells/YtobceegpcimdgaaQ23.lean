import Derived.Test.YtobceegpcimdgaaQ22
namespace Go.Proofs.Ytobceegpcimdgaa
open Go.RowKit
set_option linter.unusedVariables false
set_option linter.unusedSimpArgs false

theorem neq_s {s t : Bool} (h : ¬ s = t) : (s == t) = false := by revert h; cases s <;> cases t <;> simp
theorem iv_less {s t : Bool} {m y : Nat} {Y : Int} (h : ¬ s = t) (hv : Y = iv t y) (hm : m < y) : iv t (y - m) = iv s m + Y := by
  subst hv
  revert h
  intro h
  cases s <;> cases t
  · exact absurd rfl h
  · show -((y - m : Nat) : Int) = (m : Int) + -(y : Int); omega
  · show ((y - m : Nat) : Int) = -(m : Int) + (y : Int); omega
  · exact absurd rfl h
set_option maxRecDepth 4000 in
set_option maxHeartbeats 4000000 in
theorem intFloorK (s t : Bool) (ad1 ad2 : Option Addr) (n1 n2 c1 c2 : Nat) (X Y : Int) (w : World) (hx : Wh w s ad1 n1 c1 X) (hy : Wh w t ad2 n2 c2 Y) (hY : Y ≠ 0) :
    Calls Try.prog 38 #[.agg #[.bool s, .slice ad1 n1 c1], .agg #[.bool t, .slice ad2 n2 c2]] w fun r w' => ∃ a b c d a' b' c' d', r = .returned (.tuple #[.agg #[.bool a, .slice b c d], .agg #[.bool a', .slice b' c' d']]) ∧ Hid (Wh w' a b c d (X.fdiv Y)) ∧ Hid (Wh w' a' b' c' d' (X.fmod Y)) ∧ Hid (Fresh w.heap.size w' b c d) ∧ Hid (Fresh w.heap.size w' b' c' d') ∧ Gr w w' := by
  have HB := Bx4.mk' w s t ad1 n1 c1 ad2 n2 c2
  have GW : Gr w ((((w.alloc (.cells #[.bool s, .slice ad1 n1 c1] 24)).alloc (.cells #[.bool t, .slice ad2 n2 c2] 24)).alloc (.cells #[.bool false, .slice none 0 0] 24)).alloc (.cells #[.bool false, .slice none 0 0] 24)) := ((((Gr.refl w).alloc _).alloc _).alloc _).alloc _
  have ND : Hid (∀ w1, Gr w w1 → Calls Try.prog 39 #[.slice ad1 n1 c1, .slice ad2 n2 c2] w1 fun e w' => ∃ a' n' c' a'' n'' c'', e = .returned (.tuple #[.slice a' n' c', .slice a'' n'' c'']) ∧ Lim w' a' n' c' 18446744073709551616 (X.natAbs / Y.natAbs) ∧ Lim w' a'' n'' c'' 18446744073709551616 (X.natAbs % Y.natAbs) ∧ Gr w1 w') := fun w1 g => natDivR ad1 ad2 n1 n2 c1 c2 X.natAbs Y.natAbs w1 (hx.lim.gr g) (hy.lim.gr g) (bl_topN hx.lim hx.le) (bl_topN hy.lim hy.le) (by omega)
  have hm : (X.natAbs % Y.natAbs) < TopN := Nat.lt_trans (Nat.mod_lt _ (by omega)) hy.lt
  have hd : (X.natAbs / Y.natAbs) < TopN := tdiv_top hx.lt
  have E1 : iv (!(s == t)) (X.natAbs / Y.natAbs) = X.tdiv Y := by
    rw [iv_tdiv, iv_val hx, iv_val hy]
  have E2 : iv s (X.natAbs % Y.natAbs) = X.tmod Y := by
    rw [iv_tmod s t, iv_val hx, iv_val hy]
  have hs1 := hx.neg_iff
  have hs2 := hy.neg_iff
  by_cases hst : s = t
  · subst hst
    obtain ⟨f1, f2⟩ := fl_same (X := X) hY (Or.inr (Or.inl (by rw [← hs1, ← hs2])))
    have E1 : iv false (X.natAbs / Y.natAbs) = X.fdiv Y := by rw [f1, ← E1]; simp
    have E2 : iv s (X.natAbs % Y.natAbs) = X.fmod Y := by rw [f2, ← E2]
    have M1 : Hid (∀ w1 a n c, Gr w w1 → Lim w1 a n c 18446744073709551616 (X.natAbs / Y.natAbs) → Calls Try.prog 40 #[.bool false, .slice a n c] w1 fun r w' => ∃ a b c d, r = .returned (.agg #[.bool a, .slice b c d]) ∧ Hid (Wh w' a b c d (X.fdiv Y)) ∧ Hid (Fresh w.heap.size w' b c d) ∧ Gr w1 w') := fun w1 a n c g h => by
      have T := madeK false a n c _ w1 h (hd)
      rw [E1] at T
      exact T.mono fun r w' ⟨a, b, c, d, h1, h2, h3, h4⟩ => ⟨a, b, c, d, h1, h2, h3.out.low g.size, h4⟩
    have M2 : Hid (∀ w1 a n c, Gr w w1 → Lim w1 a n c 18446744073709551616 (X.natAbs % Y.natAbs) → Calls Try.prog 40 #[.bool s, .slice a n c] w1 fun r w' => ∃ a b c d, r = .returned (.agg #[.bool a, .slice b c d]) ∧ Hid (Wh w' a b c d (X.fmod Y)) ∧ Hid (Fresh w.heap.size w' b c d) ∧ Gr w1 w') := fun w1 a n c g h => by
      have T := madeK s a n c _ w1 h (hm)
      rw [E2] at T
      exact T.mono fun r w' ⟨a, b, c, d, h1, h2, h3, h4⟩ => ⟨a, b, c, d, h1, h2, h3.out.low g.size, h4⟩
    clear hx hy hm hd f1 f2 hs1 hs2 E1 E2
    obtain ⟨k0, k1⟩ := bx2 HB.a; obtain ⟨k2, k3⟩ := bx2 HB.b; obtain ⟨z0, z1, y0, y1⟩ := outAny HB.o; obtain ⟨x0, x1, v0, v1⟩ := outAny HB.u
    go_enter Try.func38, Try.ntmps38
    go_wp2_with (go_at_call 39; (with_reducible refine (ND.out _ GW).mono ?_); rintro r w1 ⟨aQ, nQ, cQ, aR, nR, cR, rfl, LQ, LR, g1⟩; replace LQ := hide LQ; replace LR := hide LR; replace HB := HB.gr g1; replace GW := GW.trans g1; clear k0 k1 k2 k3 z0 z1 y0 y1 x0 x1 v0 v1; obtain ⟨k0, k1⟩ := bx2 HB.a; obtain ⟨k2, k3⟩ := bx2 HB.b; obtain ⟨z0, z1, y0, y1⟩ := outAny HB.o; obtain ⟨x0, x1, v0, v1⟩ := outAny HB.u; have hs := GW.size)
    refine Code.wp_mono ?_ (regIf3 _ _ _ _ _ _ _ _ _ _ _ _ _ _ _ _ _ _ _ _ _ _ _ _ _ _ _ _ _ _ _ _ _ _ _ _ _ _ w.heap.size (w.heap.size + 1) (w.heap.size + 1 + 1) (w.heap.size + 1 + 1 + 1) nQ cQ nR cR _ _ aQ aR s s (X.fdiv Y) (X.fmod Y) w w1 (fun w3 g h => M1.out w3 _ _ _ g h) (fun w3 g h => M2.out w3 _ _ _ g h) LQ.out LR.out HB.o HB.u (Nat.le_refl _) (by omega) (by omega) (by omega) GW k0)
    clear M1 M2
    intro e a9 w5 hR
    cases e <;> first | (exact False.elim hR) | skip
    obtain ⟨u21, u22, u23, u24, u25, u26, e1, q1, m1, d1, e2, q2, m2, d2, rfl, h4, h5, W1', W2', F1', F2', G5⟩ := hR
    obtain ⟨z0', z1'⟩ := bx2 h4
    obtain ⟨z2', z3'⟩ := bx2 h5
    have W1 := hide W1'
    have W2 := hide W2'
    have F1 := hide F1'
    have F2 := hide F2'
    have G5 := hide G5
    clear W1' W2' F1' F2' k0 k1 k2 k3 z0 z1 y0 y1 x0 x1 v0 v1 h4 h5 HB GW LQ LR ND
    go_wp2
    refine bodyPost_ret (v := .tuple #[.agg #[.bool e1, .slice q1 m1 d1], .agg #[.bool e2, .slice q2 m2 d2]]) ?_ rfl ⟨e1, q1, m1, d1, e2, q2, m2, d2, rfl, W1, W2, F1, F2, G5.out⟩
    simp [results, Try.results38, go_sem, z0', z1', z2', z3']
  · have hns : ¬ (X < 0 ↔ Y < 0) := by
      rw [← hs1, ← hs2]
      revert hst
      cases s <;> cases t <;> simp
    have hsf := neq_s hst
    rw [hsf] at E1
    by_cases h0 : X.tmod Y = 0
    · obtain ⟨f1, f2⟩ := fl_same hY (Or.inl h0)
      have hr0 : X.natAbs % Y.natAbs = 0 := by rw [← iv_abs s (X.natAbs % Y.natAbs), E2, h0]; rfl
      rw [f1, f2, h0]
      have M1 : Hid (∀ w1 a n c, Gr w w1 → Lim w1 a n c 18446744073709551616 (X.natAbs / Y.natAbs) → Calls Try.prog 40 #[.bool true, .slice a n c] w1 fun r w' => ∃ a b c d, r = .returned (.agg #[.bool a, .slice b c d]) ∧ Hid (Wh w' a b c d (X.tdiv Y)) ∧ Hid (Fresh w.heap.size w' b c d) ∧ Gr w1 w') := fun w1 a n c g h => by
        have T := madeK true a n c _ w1 h (hd)
        rw [show iv true (X.natAbs / Y.natAbs) = X.tdiv Y from E1] at T
        exact T.mono fun r w' ⟨a, b, c, d, h1, h2, h3, h4⟩ => ⟨a, b, c, d, h1, h2, h3.out.low g.size, h4⟩
      have NB : Hid (∀ w1 a n c, Lim w1 a n c 18446744073709551616 (X.natAbs % Y.natAbs) → Calls Try.prog 59 #[.slice a n c] w1 fun r w' => r = .returned (.int .i64 0) ∧ Gr w1 w') := fun w1 a n c h => bits73z a n c w1 (hr0 ▸ h)
      clear hx hy hm hd f1 f2 hs1 hs2 E1 E2 hr0 h0 hns hst
      obtain ⟨k0, k1⟩ := bx2 HB.a; obtain ⟨k2, k3⟩ := bx2 HB.b; obtain ⟨z0, z1, y0, y1⟩ := outAny HB.o; obtain ⟨x0, x1, v0, v1⟩ := outAny HB.u
      go_enter Try.func38, Try.ntmps38
      go_wp2_with (first | (go_at_call 39; (with_reducible refine (ND.out _ GW).mono ?_); rintro r w1 ⟨aQ, nQ, cQ, aR, nR, cR, rfl, LQ, LR, g1⟩; replace LQ := hide LQ; replace LR := hide LR; replace HB := HB.gr g1; replace GW := GW.trans g1; clear k0 k1 k2 k3 z0 z1 y0 y1 x0 x1 v0 v1; obtain ⟨k0, k1⟩ := bx2 HB.a; obtain ⟨k2, k3⟩ := bx2 HB.b; obtain ⟨z0, z1, y0, y1⟩ := outAny HB.o; obtain ⟨x0, x1, v0, v1⟩ := outAny HB.u; have hs := GW.size) | (go_at_call 59; (with_reducible refine (NB.out _ _ _ _ LR.out).mono ?_); rintro r w2 ⟨rfl, g2⟩; replace LQ := hide (LQ.out.gr g2); replace LR := hide (LR.out.gr g2); replace HB := HB.gr g2; replace GW := GW.trans g2; clear k0 k1 k2 k3 z0 z1 y0 y1 x0 x1 v0 v1; obtain ⟨k0, k1⟩ := bx2 HB.a; obtain ⟨k2, k3⟩ := bx2 HB.b; obtain ⟨z0, z1, y0, y1⟩ := outAny HB.o; obtain ⟨x0, x1, v0, v1⟩ := outAny HB.u) | (go_at_call 40; (with_reducible refine (M1.out _ _ _ _ GW LQ.out).mono ?_); rintro r w3 ⟨e1, q1, m1, d1, rfl, W1, F1, g3⟩; replace HB := HB.gr g3; replace GW := GW.trans g3; clear k0 k1 k2 k3 z0 z1 y0 y1 x0 x1 v0 v1; obtain ⟨k0, k1⟩ := bx2 HB.a; obtain ⟨k2, k3⟩ := bx2 HB.b; obtain ⟨z0, z1, y0, y1⟩ := outAny HB.o; obtain ⟨x0, x1, v0, v1⟩ := outAny HB.u))
      have P4 := put2_block HB.o (.bool e1) (.slice q1 m1 d1)
      have H5 := heap_farW (q := (w.heap.size + 1 + 1)) (i := 1) (v := .slice q1 m1 d1) (heap_farW (q := (w.heap.size + 1 + 1)) (i := 0) (v := .bool e1) HB.u (by omega)) (by omega)
      have V1 := wh_set2W (wh_set2W W1.out F1.out HB.o (.bool e1) (.slice q1 m1 d1) (by decide)) (fresh_set2 F1.out HB.o (.bool e1) (.slice q1 m1 d1) (by decide)) H5 (.bool false) (.slice none 0 0) (by decide)
      have Y1 := fresh_set2 (fresh_set2 F1.out HB.o (.bool e1) (.slice q1 m1 d1) (by decide)) H5 (.bool false) (.slice none 0 0) (by decide)
      have P5 := put2_block H5 (.bool false) (.slice none 0 0)
      have P4' := heap_farW (q := (w.heap.size + 1 + 1 + 1)) (i := 1) (v := .slice none 0 0) (heap_farW (q := (w.heap.size + 1 + 1 + 1)) (i := 0) (v := .bool false) P4 (by omega)) (by omega)
      obtain ⟨i0, i1⟩ := bx2 P4'
      obtain ⟨i2, i3⟩ := bx2 P5
      refine bodyPost_ret (v := .tuple #[.agg #[.bool e1, .slice q1 m1 d1], .agg #[.bool false, .slice none 0 0]]) ?_ rfl ⟨e1, q1, m1, d1, false, none, 0, 0, rfl, V1, Wh.nil _, Y1, Fresh.nil _ _, (((GW.setCell (p := ⟨(w.heap.size + 1 + 1), 0, none⟩) (by show _ ≤ (w.heap.size + 1 + 1); omega) _).setCell (p := ⟨(w.heap.size + 1 + 1), 1, none⟩) (by show _ ≤ (w.heap.size + 1 + 1); omega) _).setCell (p := ⟨(w.heap.size + 1 + 1 + 1), 0, none⟩) (by show _ ≤ (w.heap.size + 1 + 1 + 1); omega) _).setCell (p := ⟨(w.heap.size + 1 + 1 + 1), 1, none⟩) (by show _ ≤ (w.heap.size + 1 + 1 + 1); omega) _⟩
      simp [results, Try.results38, go_sem, i0, i1, i2, i3]
    · obtain ⟨f1, f2⟩ := fl_less hY h0 hns
      obtain ⟨b1, b2⟩ := fl_top hx.lt hy.lt hY h0
      have hr0 : X.natAbs % Y.natAbs ≠ 0 := fun e => h0 (by rw [← E2, e]; cases s <;> rfl)
      have hlt := Nat.mod_lt X.natAbs (show 0 < Y.natAbs by omega)
      have E3 : iv true (X.natAbs / Y.natAbs + 1) = X.fdiv Y := by
        rw [f1, ← E1, Bool.not_false, iv_t, iv_t]
        omega
      have E4 : iv t (Y.natAbs - X.natAbs % Y.natAbs) = X.fmod Y := by
        rw [f2, ← E2]
        exact iv_less hst hy.val hlt
      have b3 : X.natAbs / Y.natAbs + 1 < TopN := by
        rw [← iv_abs true (X.natAbs / Y.natAbs + 1), E3, f1]; exact b1
      have M1 : Hid (∀ w1 a n c, Gr w w1 → Lim w1 a n c 18446744073709551616 (X.natAbs / Y.natAbs + 1) → Calls Try.prog 40 #[.bool true, .slice a n c] w1 fun r w' => ∃ a b c d, r = .returned (.agg #[.bool a, .slice b c d]) ∧ Hid (Wh w' a b c d (X.fdiv Y)) ∧ Hid (Fresh w.heap.size w' b c d) ∧ Gr w1 w') := fun w1 a n c g h => by
        have T := madeK true a n c _ w1 h (b3)
        rw [E3] at T
        exact T.mono fun r w' ⟨a, b, c, d, h1, h2, h3, h4⟩ => ⟨a, b, c, d, h1, h2, h3.out.low g.size, h4⟩
      have M2 : Hid (∀ w1 a n c, Gr w w1 → Lim w1 a n c 18446744073709551616 (Y.natAbs - X.natAbs % Y.natAbs) → Calls Try.prog 40 #[.bool t, .slice a n c] w1 fun r w' => ∃ a b c d, r = .returned (.agg #[.bool a, .slice b c d]) ∧ Hid (Wh w' a b c d (X.fmod Y)) ∧ Hid (Fresh w.heap.size w' b c d) ∧ Gr w1 w') := fun w1 a n c g h => by
        have T := madeK t a n c _ w1 h (Nat.lt_of_le_of_lt (Nat.sub_le _ _) hy.lt)
        rw [E4] at T
        exact T.mono fun r w' ⟨a, b, c, d, h1, h2, h3, h4⟩ => ⟨a, b, c, d, h1, h2, h3.out.low g.size, h4⟩
      have X3 : Hid (∀ w1, Gr w w1 → Calls Try.prog 61 #[.int .u64 1] w1 fun e w' => ∃ ad' n' cap', e = .returned (.slice ad' n' cap') ∧ Lim w' ad' n' cap' 18446744073709551616 1 ∧ Gr w1 w') := fun w1 _ => (natOfK 1 (by omega) w1).mono fun e w' ⟨a, b, c, h1, _, h3, _, h5⟩ => ⟨a, b, c, h1, h3.out, h5⟩
      have X4 : Hid (∀ (aQ : Option Addr) (nQ cQ : Nat) w1 a n c, Gr w w1 → Lim w1 aQ nQ cQ 18446744073709551616 (X.natAbs / Y.natAbs) → Lim w1 a n c 18446744073709551616 1 → Calls Try.prog 60 #[.slice aQ nQ cQ, .slice a n c] w1 fun e w' => ∃ ad' n' cap', e = .returned (.slice ad' n' cap') ∧ Lim w' ad' n' cap' 18446744073709551616 (X.natAbs / Y.natAbs + 1) ∧ Gr w1 w') := fun aQ nQ cQ w1 a n c g h1 h2 => add59 aQ a nQ n cQ c _ _ w1 h1 h2 (bl_topN h1 (lim_lenK h1 hd)) (Nat.le_trans (bl_le_of_lt (k := 1) (by omega)) (by omega))
      have X5 : Hid (∀ (aR : Option Addr) (nR cR : Nat) w1, Gr w w1 → Lim w1 ad2 n2 c2 18446744073709551616 Y.natAbs → Lim w1 aR nR cR 18446744073709551616 (X.natAbs % Y.natAbs) → Calls Try.prog 62 #[.slice ad2 n2 c2, .slice aR nR cR] w1 fun e w' => ∃ ad' n' cap', e = .returned (.slice ad' n' cap') ∧ Lim w' ad' n' cap' 18446744073709551616 (Y.natAbs - X.natAbs % Y.natAbs) ∧ Gr w1 w') := fun aR nR cR w1 g h1 h2 => sub61 ad2 aR n2 nR c2 cR _ _ w1 h1 h2 (bl_topN h1 hy.le) (Nat.le_of_lt hlt)
      have LY := hide hy.lim
      have hp := bl_posW (Nat.pos_of_ne_zero hr0)
      obtain ⟨M, hM⟩ : ∃ M, M = bl (X.natAbs % Y.natAbs) := ⟨_, rfl⟩
      have NB : Hid (∀ w1 a n c, Lim w1 a n c 18446744073709551616 (X.natAbs % Y.natAbs) → Calls Try.prog 59 #[.slice a n c] w1 fun r w' => r = .returned (.int .i64 (M : Int)) ∧ Gr w1 w') := fun w1 a n c h => hM ▸ bits73p a n c _ w1 h (bl_topN h (lim_lenK h hm)) (Nat.pos_of_ne_zero hr0)
      have e1 : ((M : Int) == 0) = false := by rw [hM]; simp; omega
      clear hx hy hm hd f1 f2 hs1 hs2 E1 E2 E3 E4 hr0 h0 hns hst b1 b2 b3 hlt hp hM
      obtain ⟨k0, k1⟩ := bx2 HB.a; obtain ⟨k2, k3⟩ := bx2 HB.b; obtain ⟨z0, z1, y0, y1⟩ := outAny HB.o; obtain ⟨x0, x1, v0, v1⟩ := outAny HB.u
      go_enter Try.func38, Try.ntmps38
      go_wp2_with (first | (go_at_call 39; (with_reducible refine (ND.out _ GW).mono ?_); rintro r w1 ⟨aQ, nQ, cQ, aR, nR, cR, rfl, LQ, LR, g1⟩; replace LQ := hide LQ; replace LR := hide LR; replace HB := HB.gr g1; replace GW := GW.trans g1; clear k0 k1 k2 k3 z0 z1 y0 y1 x0 x1 v0 v1; obtain ⟨k0, k1⟩ := bx2 HB.a; obtain ⟨k2, k3⟩ := bx2 HB.b; obtain ⟨z0, z1, y0, y1⟩ := outAny HB.o; obtain ⟨x0, x1, v0, v1⟩ := outAny HB.u; have hs := GW.size) | (go_at_call 59; (with_reducible refine (NB.out _ _ _ _ LR.out).mono ?_); rintro r w2 ⟨rfl, g2⟩; replace LQ := hide (LQ.out.gr g2); replace LR := hide (LR.out.gr g2); replace HB := HB.gr g2; replace GW := GW.trans g2; clear k0 k1 k2 k3 z0 z1 y0 y1 x0 x1 v0 v1; obtain ⟨k0, k1⟩ := bx2 HB.a; obtain ⟨k2, k3⟩ := bx2 HB.b; obtain ⟨z0, z1, y0, y1⟩ := outAny HB.o; obtain ⟨x0, x1, v0, v1⟩ := outAny HB.u))
      refine Code.wp_mono ?_ (regIf6 _ _ _ _ _ _ _ _ _ _ _ _ _ _ _ _ _ _ _ _ _ _ _ _ _ _ _ _ _ _ _ _ _ _ _ _ _ _ w.heap.size (w.heap.size + 1) (w.heap.size + 1 + 1) (w.heap.size + 1 + 1 + 1) nQ cQ nR cR n2 c2 _ _ _ _ _ aQ aR ad2 t (X.fdiv Y) (X.fmod Y) w w2 M1 M2 X3 (fun w3 a n c => X4.out aQ nQ cQ w3 a n c) (fun w3 => X5.out aR nR cR w3) LQ.out LR.out (LY.out.gr GW) HB.o HB.u (Nat.le_refl _) (by omega) (by omega) (by omega) GW ⟨k2, k3⟩)
      clear M1 M2 X3 X4 X5 NB
      intro e a9 w5 hR
      cases e <;> first | (exact False.elim hR) | skip
      obtain ⟨u33, u34, u35, u36, u37, u38, u39, u40, u41, u42, u43, e1, q1, m1, d1, e2, q2, m2, d2, rfl, h4, h5, W1', W2', F1', F2', G5⟩ := hR
      obtain ⟨z0', z1'⟩ := bx2 h4
      obtain ⟨z2', z3'⟩ := bx2 h5
      have W1 := hide W1'
      have W2 := hide W2'
      have F1 := hide F1'
      have F2 := hide F2'
      have G5 := hide G5
      clear W1' W2' F1' F2' k0 k1 k2 k3 z0 z1 y0 y1 x0 x1 v0 v1 h4 h5 HB GW LQ LR ND
      go_wp2
      refine bodyPost_ret (v := .tuple #[.agg #[.bool e1, .slice q1 m1 d1], .agg #[.bool e2, .slice q2 m2 d2]]) ?_ rfl ⟨e1, q1, m1, d1, e2, q2, m2, d2, rfl, W1, W2, F1, F2, G5.out⟩
      simp [results, Try.results38, go_sem, z0', z1', z2', z3']
end Go.Proofs.Ytobceegpcimdgaa
namespace Go.Proofs.Ytobceegpcimdgaa
open Go.RowKit
set_option linter.unusedVariables false
set_option linter.unusedSimpArgs false

def An2k (w' : World) (r : Ending) (E ZA ZB : Int) (B : Nat) : Prop := ∃ a b c d a' b' c' d', r = .returned (.tuple #[.agg #[.bool a, .slice b c d], .agg #[.bool a', .slice b' c' d'], .int .i64 E]) ∧ Wh w' a b c d ZA ∧ Wh w' a' b' c' d' ZB ∧ Fresh B w' b c d ∧ Fresh B w' b' c' d'
set_option maxRecDepth 4000 in
set_option maxHeartbeats 4000000 in
theorem rTruncA (s t : Bool) (ad1 ad2 : Option Addr) (n1 n2 c1 c2 : Nat) (xs ys : List Nat) (w : World) (rx : Row w ad1 n1 c1 xs) (ry : Row w ad2 n2 c2 ys) (hx : ∀ x ∈ xs, x < 18446744073709551616) (hy : ∀ x ∈ ys, x < 18446744073709551616) (E : Int) (hE : wrD (rightN s xs) (rightN t ys) n2 = E) :
    Calls Try.prog 16 #[.agg #[.bool s, .slice ad1 n1 c1], .agg #[.bool t, .slice ad2 n2 c2]] w fun r w' => An2k w' r E (zD E ((iv s (nv 18446744073709551616 xs)).tdiv (iv t (nv 18446744073709551616 ys)))) (zD E ((iv s (nv 18446744073709551616 xs)).tmod (iv t (nv 18446744073709551616 ys)))) w.heap.size ∧ Gr w w' := by
  have HB := Bx4.mk' w s t ad1 n1 c1 ad2 n2 c2
  have GW : Gr w ((((w.alloc (.cells #[.bool s, .slice ad1 n1 c1] 24)).alloc (.cells #[.bool t, .slice ad2 n2 c2] 24)).alloc (.cells #[.bool false, .slice none 0 0] 24)).alloc (.cells #[.bool false, .slice none 0 0] 24)) := ((((Gr.refl w).alloc _).alloc _).alloc _).alloc _
  have WR : Hid (∀ w1, Gr w w1 → Calls Try.prog 37 #[.agg #[.bool s, .slice ad1 n1 c1], .agg #[.bool t, .slice ad2 n2 c2]] w1 fun r w' => r = .returned (.int .i64 E) ∧ Gr w1 w') := fun w1 g => wrongK s t ad1 ad2 n1 n2 c1 c2 xs ys w1 (rx.gr g) (ry.gr g) hy E hE
  by_cases hE0 : E = 0
  · subst hE0
    rw [zD_0, zD_0]
    obtain ⟨r1, r2, r3⟩ := wrD_0 hE
    replace hx := whR rx hx r1
    replace hy := whR ry hy r2
    have hY := ivY hy r3
    clear rx ry r1 r2 r3 hE
    generalize (iv s (nv 18446744073709551616 xs)) = X at *
    generalize (iv t (nv 18446744073709551616 ys)) = Y at *
    have ND : Hid (∀ w1, Gr w w1 → Calls Try.prog 39 #[.slice ad1 n1 c1, .slice ad2 n2 c2] w1 fun e w' => ∃ a' n' c' a'' n'' c'', e = .returned (.tuple #[.slice a' n' c', .slice a'' n'' c'']) ∧ Lim w' a' n' c' 18446744073709551616 (X.natAbs / Y.natAbs) ∧ Lim w' a'' n'' c'' 18446744073709551616 (X.natAbs % Y.natAbs) ∧ Gr w1 w') := fun w1 g => natDivR ad1 ad2 n1 n2 c1 c2 X.natAbs Y.natAbs w1 (hx.lim.gr g) (hy.lim.gr g) (bl_topN hx.lim hx.le) (bl_topN hy.lim hy.le) (by omega)
    have hm : (X.natAbs % Y.natAbs) < TopN := Nat.lt_trans (Nat.mod_lt _ (by omega)) hy.lt
    have hd : (X.natAbs / Y.natAbs) < TopN := tdiv_top hx.lt
    have E1 : iv (!(s == t)) (X.natAbs / Y.natAbs) = X.tdiv Y := by
      rw [iv_tdiv, iv_val hx, iv_val hy]
    have E2 : iv s (X.natAbs % Y.natAbs) = X.tmod Y := by
      rw [iv_tmod s t, iv_val hx, iv_val hy]
    have M1 : Hid (∀ w1 a n c, Gr w w1 → Lim w1 a n c 18446744073709551616 (X.natAbs / Y.natAbs) → Calls Try.prog 40 #[.bool (!(s == t)), .slice a n c] w1 fun r w' => ∃ a b c d, r = .returned (.agg #[.bool a, .slice b c d]) ∧ Hid (Wh w' a b c d (X.tdiv Y)) ∧ Hid (Fresh w.heap.size w' b c d) ∧ Gr w1 w') := fun w1 a n c g h => by
      have T := madeK (!(s == t)) a n c _ w1 h (hd)
      rw [E1] at T
      exact T.mono fun r w' ⟨a, b, c, d, h1, h2, h3, h4⟩ => ⟨a, b, c, d, h1, h2, h3.out.low g.size, h4⟩
    have M2 : Hid (∀ w1 a n c, Gr w w1 → Lim w1 a n c 18446744073709551616 (X.natAbs % Y.natAbs) → Calls Try.prog 40 #[.bool s, .slice a n c] w1 fun r w' => ∃ a b c d, r = .returned (.agg #[.bool a, .slice b c d]) ∧ Hid (Wh w' a b c d (X.tmod Y)) ∧ Hid (Fresh w.heap.size w' b c d) ∧ Gr w1 w') := fun w1 a n c g h => by
      have T := madeK s a n c _ w1 h (hm)
      rw [E2] at T
      exact T.mono fun r w' ⟨a, b, c, d, h1, h2, h3, h4⟩ => ⟨a, b, c, d, h1, h2, h3.out.low g.size, h4⟩
    clear hx hy hm hd E1 E2
    obtain ⟨k0, k1⟩ := bx2 HB.a; obtain ⟨k2, k3⟩ := bx2 HB.b; obtain ⟨z0, z1, y0, y1⟩ := outAny HB.o; obtain ⟨x0, x1, v0, v1⟩ := outAny HB.u
    go_enter Try.func16, Try.ntmps16
    go_wp2_with (first | (go_at_call 37; (with_reducible refine (WR.out _ GW).mono ?_); rintro r w0' ⟨rfl, g0⟩; replace HB := HB.gr g0; replace GW := GW.trans g0; clear k0 k1 k2 k3 z0 z1 y0 y1 x0 x1 v0 v1; obtain ⟨k0, k1⟩ := bx2 HB.a; obtain ⟨k2, k3⟩ := bx2 HB.b; obtain ⟨z0, z1, y0, y1⟩ := outAny HB.o; obtain ⟨x0, x1, v0, v1⟩ := outAny HB.u) | (go_at_call 39; (with_reducible refine (ND.out _ GW).mono ?_); rintro r w1 ⟨aQ, nQ, cQ, aR, nR, cR, rfl, LQ, LR, g1⟩; replace LQ := hide LQ; replace LR := hide LR; replace HB := HB.gr g1; replace GW := GW.trans g1; clear k0 k1 k2 k3 z0 z1 y0 y1 x0 x1 v0 v1; obtain ⟨k0, k1⟩ := bx2 HB.a; obtain ⟨k2, k3⟩ := bx2 HB.b; obtain ⟨z0, z1, y0, y1⟩ := outAny HB.o; obtain ⟨x0, x1, v0, v1⟩ := outAny HB.u; have hs := GW.size))
    refine Code.wp_mono ?_ (regRt5 _ _ _ _ _ _ _ _ _ _ _ _ _ _ _ _ _ _ _ _ _ _ _ _ _ _ _ _ _ _ _ w.heap.size (w.heap.size + 1) (w.heap.size + 1 + 1) (w.heap.size + 1 + 1 + 1) nQ cQ nR cR _ _ aQ aR s t (X.tdiv Y) (X.tmod Y) w w1 (fun w3 g h => M1.out w3 _ _ _ g h) (fun w3 g h => M2.out w3 _ _ _ g h) LQ.out LR.out HB.o HB.u (Nat.le_refl _) (by omega) (by omega) (by omega) GW ⟨k0, k2⟩)
    clear M1 M2
    intro e a9 w5 hR
    cases e <;> first | (exact False.elim hR) | skip
    obtain ⟨u26, u27, u28, u29, u30, u31, u32, u33, u34, u35, u36, e1, q1, m1, d1, e2, q2, m2, d2, rfl, h4, h5, W1', W2', F1', F2', G5⟩ := hR
    obtain ⟨z0', z1'⟩ := bx2 h4
    obtain ⟨z2', z3'⟩ := bx2 h5
    have W1 := hide W1'
    have W2 := hide W2'
    have F1 := hide F1'
    have F2 := hide F2'
    have G5 := hide G5
    clear W1' W2' F1' F2' k0 k1 k2 k3 z0 z1 y0 y1 x0 x1 v0 v1 h4 h5 HB GW LQ LR ND
    go_wp2
    refine bodyPost_ret (v := .tuple #[.agg #[.bool e1, .slice q1 m1 d1], .agg #[.bool e2, .slice q2 m2 d2], .int .i64 0]) ?_ rfl ⟨⟨e1, q1, m1, d1, e2, q2, m2, d2, rfl, W1.out, W2.out, F1.out, F2.out⟩, G5.out⟩
    simp [results, Try.results16, go_sem, z0', z1', z2', z3']
  · rw [zD_n hE0, zD_n hE0]
    have hE9 : (E == 0) = false := by simp [hE0]
    clear rx ry hx hy hE
    obtain ⟨k0, k1⟩ := bx2 HB.a; obtain ⟨k2, k3⟩ := bx2 HB.b; obtain ⟨z0, z1, y0, y1⟩ := outAny HB.o; obtain ⟨x0, x1, v0, v1⟩ := outAny HB.u
    go_enter Try.func16, Try.ntmps16
    go_wp2_with (go_at_call 37; (with_reducible refine (WR.out _ GW).mono ?_); rintro r w0' ⟨rfl, g0⟩; replace HB := HB.gr g0; replace GW := GW.trans g0; clear k0 k1 k2 k3 z0 z1 y0 y1 x0 x1 v0 v1; obtain ⟨k0, k1⟩ := bx2 HB.a; obtain ⟨k2, k3⟩ := bx2 HB.b; obtain ⟨z0, z1, y0, y1⟩ := outAny HB.o; obtain ⟨x0, x1, v0, v1⟩ := outAny HB.u)
    have P4 := put2_block HB.o (.bool false) (.slice none 0 0)
    have P5 := put2_block (heap_farW (q := (w.heap.size + 1 + 1)) (i := 1) (v := .slice none 0 0) (heap_farW (q := (w.heap.size + 1 + 1)) (i := 0) (v := .bool false) HB.u (by omega)) (by omega)) (.bool false) (.slice none 0 0)
    have P4' := heap_farW (q := (w.heap.size + 1 + 1 + 1)) (i := 1) (v := .slice none 0 0) (heap_farW (q := (w.heap.size + 1 + 1 + 1)) (i := 0) (v := .bool false) P4 (by omega)) (by omega)
    obtain ⟨e0, e1⟩ := bx2 P4'
    obtain ⟨e2, e3⟩ := bx2 P5
    refine bodyPost_ret (v := .tuple #[.agg #[.bool false, .slice none 0 0], .agg #[.bool false, .slice none 0 0], .int .i64 E]) ?_ rfl ⟨⟨false, none, 0, 0, false, none, 0, 0, rfl, Wh.nil _, Wh.nil _, Fresh.nil _ _, Fresh.nil _ _⟩, (((GW.setCell (p := ⟨(w.heap.size + 1 + 1), 0, none⟩) (by show _ ≤ (w.heap.size + 1 + 1); omega) _).setCell (p := ⟨(w.heap.size + 1 + 1), 1, none⟩) (by show _ ≤ (w.heap.size + 1 + 1); omega) _).setCell (p := ⟨(w.heap.size + 1 + 1 + 1), 0, none⟩) (by show _ ≤ (w.heap.size + 1 + 1 + 1); omega) _).setCell (p := ⟨(w.heap.size + 1 + 1 + 1), 1, none⟩) (by show _ ≤ (w.heap.size + 1 + 1 + 1); omega) _⟩
    simp [results, Try.results16, go_sem, e0, e1, e2, e3]
set_option maxRecDepth 4000 in
set_option maxHeartbeats 4000000 in
theorem rFloorA (s t : Bool) (ad1 ad2 : Option Addr) (n1 n2 c1 c2 : Nat) (xs ys : List Nat) (w : World) (rx : Row w ad1 n1 c1 xs) (ry : Row w ad2 n2 c2 ys) (hx : ∀ x ∈ xs, x < 18446744073709551616) (hy : ∀ x ∈ ys, x < 18446744073709551616) (E : Int) (hE : wrD (rightN s xs) (rightN t ys) n2 = E) :
    Calls Try.prog 15 #[.agg #[.bool s, .slice ad1 n1 c1], .agg #[.bool t, .slice ad2 n2 c2]] w fun r w' => An2k w' r E (zD E ((iv s (nv 18446744073709551616 xs)).fdiv (iv t (nv 18446744073709551616 ys)))) (zD E ((iv s (nv 18446744073709551616 xs)).fmod (iv t (nv 18446744073709551616 ys)))) w.heap.size ∧ Gr w w' := by
  have HB := Bx4.mk' w s t ad1 n1 c1 ad2 n2 c2
  have GW : Gr w ((((w.alloc (.cells #[.bool s, .slice ad1 n1 c1] 24)).alloc (.cells #[.bool t, .slice ad2 n2 c2] 24)).alloc (.cells #[.bool false, .slice none 0 0] 24)).alloc (.cells #[.bool false, .slice none 0 0] 24)) := ((((Gr.refl w).alloc _).alloc _).alloc _).alloc _
  have WR : Hid (∀ w1, Gr w w1 → Calls Try.prog 37 #[.agg #[.bool s, .slice ad1 n1 c1], .agg #[.bool t, .slice ad2 n2 c2]] w1 fun r w' => r = .returned (.int .i64 E) ∧ Gr w1 w') := fun w1 g => wrongK s t ad1 ad2 n1 n2 c1 c2 xs ys w1 (rx.gr g) (ry.gr g) hy E hE
  by_cases hE0 : E = 0
  · subst hE0
    rw [zD_0, zD_0]
    obtain ⟨r1, r2, r3⟩ := wrD_0 hE
    replace hx := whR rx hx r1
    replace hy := whR ry hy r2
    have hY := ivY hy r3
    clear rx ry r1 r2 r3 hE
    generalize (iv s (nv 18446744073709551616 xs)) = X at *
    generalize (iv t (nv 18446744073709551616 ys)) = Y at *
    have TT := hide (fun w1 (g : Gr w w1) => intFloorK s t ad1 ad2 n1 n2 c1 c2 X Y w1 (hx.gr g) (hy.gr g) hY)
    clear hx hy
    obtain ⟨k0, k1⟩ := bx2 HB.a; obtain ⟨k2, k3⟩ := bx2 HB.b; obtain ⟨z0, z1, y0, y1⟩ := outAny HB.o; obtain ⟨x0, x1, v0, v1⟩ := outAny HB.u
    go_enter Try.func15, Try.ntmps15
    go_wp2_with (first | (go_at_call 37; (with_reducible refine (WR.out _ GW).mono ?_); rintro r w0' ⟨rfl, g0⟩; replace HB := HB.gr g0; replace GW := GW.trans g0; clear k0 k1 k2 k3 z0 z1 y0 y1 x0 x1 v0 v1; obtain ⟨k0, k1⟩ := bx2 HB.a; obtain ⟨k2, k3⟩ := bx2 HB.b; obtain ⟨z0, z1, y0, y1⟩ := outAny HB.o; obtain ⟨x0, x1, v0, v1⟩ := outAny HB.u) | (go_at_call 38; (with_reducible refine (TT.out _ GW).mono ?_); rintro r w1 ⟨a1, q1, m1, d1, a2, q2, m2, d2, rfl, W1, W2, F1, F2, g1⟩; have gx : Gr w1 ((w1.alloc (.cells #[.bool a1, .slice q1 m1 d1] 24)).alloc (.cells #[.bool a2, .slice q2 m2 d2] 24)) := ((Gr.refl w1).alloc _).alloc _; obtain ⟨H7, H8⟩ := blk2 w1 (.cells #[.bool a1, .slice q1 m1 d1] 24) (.cells #[.bool a2, .slice q2 m2 d2] 24); have sz0 := HB.u; have sz1 := lt_of_get2 sz0; have sz2 := g1.size; clear sz0; replace W1 := hide (W1.out.gr gx); replace W2 := hide (W2.out.gr gx); replace F1 := hide ((F1.out.low GW.size).gr gx); replace F2 := hide ((F2.out.low GW.size).gr gx); replace HB := (HB.gr g1).gr gx; replace GW := (GW.trans g1).trans gx; clear k0 k1 k2 k3 z0 z1 y0 y1 x0 x1 v0 v1; clear gx g1; obtain ⟨k0, k1⟩ := bx2 HB.a; obtain ⟨k2, k3⟩ := bx2 HB.b; obtain ⟨z0, z1, y0, y1⟩ := outAny HB.o; obtain ⟨x0, x1, v0, v1⟩ := outAny HB.u; obtain ⟨k4, k5⟩ := bx2 H7; obtain ⟨k6, k7⟩ := bx2 H8))
    refine Code.wp_mono ?_ (regRf5 _ _ _ _ _ _ _ _ _ _ _ _ _ _ _ _ _ _ _ _ _ _ (w.heap.size + 1 + 1) (w.heap.size + 1 + 1 + 1) w1.heap.size (w1.heap.size + 1) a1 a2 q1 q2 m1 d1 m2 d2 (X.fdiv Y) (X.fmod Y) w _ HB.o HB.u W1.out W2.out F1.out F2.out (by omega) (by omega) (by omega) (by omega) GW ⟨k4, k5, k6, k7⟩)
    intro e a9 w5 hR
    cases e <;> first | (exact False.elim hR) | skip
    obtain ⟨u24, u25, rfl, h4, h5, W1', W2', F1', F2', G5⟩ := hR
    obtain ⟨z0', z1'⟩ := bx2 h4
    obtain ⟨z2', z3'⟩ := bx2 h5
    replace W1 := hide W1'
    replace W2 := hide W2'
    replace F1 := hide F1'
    replace F2 := hide F2'
    have G5 := hide G5
    clear W1' W2' F1' F2' k0 k1 k2 k3 z0 z1 y0 y1 x0 x1 v0 v1 h4 h5 HB GW
    go_wp2
    refine bodyPost_ret (v := .tuple #[.agg #[.bool a1, .slice q1 m1 d1], .agg #[.bool a2, .slice q2 m2 d2], .int .i64 0]) ?_ rfl ⟨⟨a1, q1, m1, d1, a2, q2, m2, d2, rfl, W1.out, W2.out, F1.out, F2.out⟩, G5.out⟩
    simp [results, Try.results15, go_sem, z0', z1', z2', z3']
  · rw [zD_n hE0, zD_n hE0]
    have hE9 : (E == 0) = false := by simp [hE0]
    clear rx ry hx hy hE
    obtain ⟨k0, k1⟩ := bx2 HB.a; obtain ⟨k2, k3⟩ := bx2 HB.b; obtain ⟨z0, z1, y0, y1⟩ := outAny HB.o; obtain ⟨x0, x1, v0, v1⟩ := outAny HB.u
    go_enter Try.func15, Try.ntmps15
    go_wp2_with (go_at_call 37; (with_reducible refine (WR.out _ GW).mono ?_); rintro r w0' ⟨rfl, g0⟩; replace HB := HB.gr g0; replace GW := GW.trans g0; clear k0 k1 k2 k3 z0 z1 y0 y1 x0 x1 v0 v1; obtain ⟨k0, k1⟩ := bx2 HB.a; obtain ⟨k2, k3⟩ := bx2 HB.b; obtain ⟨z0, z1, y0, y1⟩ := outAny HB.o; obtain ⟨x0, x1, v0, v1⟩ := outAny HB.u)
    have P4 := put2_block HB.o (.bool false) (.slice none 0 0)
    have P5 := put2_block (heap_farW (q := (w.heap.size + 1 + 1)) (i := 1) (v := .slice none 0 0) (heap_farW (q := (w.heap.size + 1 + 1)) (i := 0) (v := .bool false) HB.u (by omega)) (by omega)) (.bool false) (.slice none 0 0)
    have P4' := heap_farW (q := (w.heap.size + 1 + 1 + 1)) (i := 1) (v := .slice none 0 0) (heap_farW (q := (w.heap.size + 1 + 1 + 1)) (i := 0) (v := .bool false) P4 (by omega)) (by omega)
    obtain ⟨e0, e1⟩ := bx2 P4'
    obtain ⟨e2, e3⟩ := bx2 P5
    refine bodyPost_ret (v := .tuple #[.agg #[.bool false, .slice none 0 0], .agg #[.bool false, .slice none 0 0], .int .i64 E]) ?_ rfl ⟨⟨false, none, 0, 0, false, none, 0, 0, rfl, Wh.nil _, Wh.nil _, Fresh.nil _ _, Fresh.nil _ _⟩, (((GW.setCell (p := ⟨(w.heap.size + 1 + 1), 0, none⟩) (by show _ ≤ (w.heap.size + 1 + 1); omega) _).setCell (p := ⟨(w.heap.size + 1 + 1), 1, none⟩) (by show _ ≤ (w.heap.size + 1 + 1); omega) _).setCell (p := ⟨(w.heap.size + 1 + 1 + 1), 0, none⟩) (by show _ ≤ (w.heap.size + 1 + 1 + 1); omega) _).setCell (p := ⟨(w.heap.size + 1 + 1 + 1), 1, none⟩) (by show _ ≤ (w.heap.size + 1 + 1 + 1); omega) _⟩
    simp [results, Try.results15, go_sem, e0, e1, e2, e3]
end Go.Proofs.Ytobceegpcimdgaa
