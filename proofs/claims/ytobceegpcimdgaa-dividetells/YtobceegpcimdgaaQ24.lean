import Derived.Test.YtobceegpcimdgaaQ23
import Derived.Test.YtobceegpcimdgaaQ06
import Derived.Test.YtobceegpcimdgaaQ08
import Derived.Test.YtobceegpcimdgaaQ01
import Derived.Deep.RegionHeld3
import Derived.ArgAppend
import Derived.OwnWalk
namespace Go.Proofs.Ytobceegpcimdgaa
open Go.RowKit
set_option linter.unusedVariables false
set_option linter.unusedSimpArgs false

set_option maxRecDepth 4000 in
set_option maxHeartbeats 4000000 in
theorem rExactA (s t : Bool) (ad1 ad2 : Option Addr) (n1 n2 c1 c2 : Nat) (xs ys : List Nat) (w : World) (rx : Row w ad1 n1 c1 xs) (ry : Row w ad2 n2 c2 ys) (hx : ∀ x ∈ xs, x < 18446744073709551616) (hy : ∀ x ∈ ys, x < 18446744073709551616) (E : Int) (hE : wrD (rightN s xs) (rightN t ys) n2 = E) :
    Calls Try.prog 17 #[.agg #[.bool s, .slice ad1 n1 c1], .agg #[.bool t, .slice ad2 n2 c2]] w fun r w' => An3 w' r (okD E (iv s (nv 18446744073709551616 xs)) (iv t (nv 18446744073709551616 ys))) E (exD E (iv s (nv 18446744073709551616 xs)) (iv t (nv 18446744073709551616 ys))) w.heap.size ∧ Gr w w' := by
  have HB := Bx3.mk' w s t ad1 n1 c1 ad2 n2 c2
  have GW : Gr w (((w.alloc (.cells #[.bool s, .slice ad1 n1 c1] 24)).alloc (.cells #[.bool t, .slice ad2 n2 c2] 24)).alloc (.cells #[.bool false, .slice none 0 0] 24)) := (((Gr.refl w).alloc _).alloc _).alloc _
  have TT : Hid (∀ w1, Gr w w1 → Calls Try.prog 16 #[.agg #[.bool s, .slice ad1 n1 c1], .agg #[.bool t, .slice ad2 n2 c2]] w1 fun r w' => ∃ a b c d a' b' c' d', r = .returned (.tuple #[.agg #[.bool a, .slice b c d], .agg #[.bool a', .slice b' c' d'], .int .i64 E]) ∧ Hid (Wh w' a b c d (zD E ((iv s (nv 18446744073709551616 xs)).tdiv (iv t (nv 18446744073709551616 ys))))) ∧ Hid (Wh w' a' b' c' d' (zD E ((iv s (nv 18446744073709551616 xs)).tmod (iv t (nv 18446744073709551616 ys))))) ∧ Hid (Fresh w1.heap.size w' b c d) ∧ Hid (Fresh w1.heap.size w' b' c' d') ∧ Gr w1 w') := fun w1 g => (rTruncA s t ad1 ad2 n1 n2 c1 c2 xs ys w1 (rx.gr g) (ry.gr g) hx hy E hE).mono fun r w' ⟨⟨a, b, c, d, a', b', c', d', h1, h2, h3, h4, h5⟩, h6⟩ => ⟨a, b, c, d, a', b', c', d', h1, h2, h3, h4, h5, h6⟩
  clear rx ry hx hy hE
  generalize (iv s (nv 18446744073709551616 xs)) = X at *
  generalize (iv t (nv 18446744073709551616 ys)) = Y at *
  obtain ⟨k0, k1⟩ := bx2 HB.a; obtain ⟨k2, k3⟩ := bx2 HB.b; obtain ⟨z0, z1, y0, y1⟩ := outAny HB.o
  by_cases hE0 : E = 0
  · subst hE0
    rw [zD_0, zD_0] at TT
    by_cases h0 : X.tmod Y = 0
    · have r1 : okD 0 X Y = true := by simp [okD, h0]
      have r2 : exD 0 X Y = X.tdiv Y := by simp [exD, h0]
      rw [r1, r2]
      clear r1 r2
      have IZ : Hid (∀ w1 a b c d, Wh w1 a b c d (X.tmod Y) → Calls Try.prog 41 #[.agg #[.bool a, .slice b c d]] w1 fun r w' => r = .returned (.bool true) ∧ Gr w1 w') := fun w1 a b c d h => by
        have T := intZeroK a b c d _ w1 h
        rw [decide_eq_true h0] at T
        exact T
      clear h0
      go_enter Try.func17, Try.ntmps17
      go_wp2_with (first | (go_at_call 16; (with_reducible refine (TT.out _ GW).mono ?_); rintro r w1 ⟨a1, q1, m1, d1, a2, q2, m2, d2, rfl, W1, W2, F1, F2, g1⟩; have gx : Gr w1 ((w1.alloc (.cells #[.bool a1, .slice q1 m1 d1] 24)).alloc (.cells #[.bool a2, .slice q2 m2 d2] 24)) := ((Gr.refl w1).alloc _).alloc _; obtain ⟨H7, H8⟩ := blk2 w1 (.cells #[.bool a1, .slice q1 m1 d1] 24) (.cells #[.bool a2, .slice q2 m2 d2] 24); have sz0 := HB.o; have sz1 := lt_of_get2 sz0; have sz2 := g1.size; clear sz0; replace W1 := hide (W1.out.gr gx); replace W2 := hide (W2.out.gr gx); replace F1 := hide ((F1.out.low GW.size).gr gx); replace F2 := hide ((F2.out.low GW.size).gr gx); replace HB := (HB.gr g1).gr gx; replace GW := (GW.trans g1).trans gx; clear k0 k1 k2 k3 z0 z1 y0 y1; clear gx g1; obtain ⟨k0, k1⟩ := bx2 HB.a; obtain ⟨k2, k3⟩ := bx2 HB.b; obtain ⟨z0, z1, y0, y1⟩ := outAny HB.o; obtain ⟨k4, k5⟩ := bx2 H7; obtain ⟨k6, k7⟩ := bx2 H8) | (go_at_call 41; (with_reducible refine (IZ.out _ a2 q2 m2 d2 W2.out).mono ?_); rintro r w2 ⟨rfl, g2⟩; replace W1 := hide (W1.out.gr g2); replace F1 := hide (F1.out.gr g2); clear W2 F2; replace HB := HB.gr g2; replace GW := GW.trans g2; replace H7 := keepO g2 H7; clear k0 k1 k2 k3 z0 z1 y0 y1; clear k4 k5 k6 k7 g2; obtain ⟨k0, k1⟩ := bx2 HB.a; obtain ⟨k2, k3⟩ := bx2 HB.b; obtain ⟨z0, z1, y0, y1⟩ := outAny HB.o; obtain ⟨k4, k5⟩ := bx2 H7))
      have V1 := wh_set2W W1.out F1.out HB.o (.bool a1) (.slice q1 m1 d1) (by decide)
      have Y1 := fresh_set2 F1.out HB.o (.bool a1) (.slice q1 m1 d1) (by decide)
      have P4 := put2_block HB.o (.bool a1) (.slice q1 m1 d1)
      obtain ⟨e0, e1⟩ := bx2 P4
      refine bodyPost_ret (v := .tuple #[.agg #[.bool a1, .slice q1 m1 d1], .bool true, .int .i64 0]) ?_ rfl ⟨⟨a1, q1, m1, d1, rfl, V1, Y1⟩, ((GW.setCell (p := ⟨(w.heap.size + 1 + 1), 0, none⟩) (by show _ ≤ (w.heap.size + 1 + 1); omega) (.bool a1)).setCell (p := ⟨(w.heap.size + 1 + 1), 1, none⟩) (by show _ ≤ (w.heap.size + 1 + 1); omega) (.slice q1 m1 d1))⟩
      simp [results, Try.results17, go_sem, e0, e1]
    · have r1 : okD 0 X Y = false := by simp [okD, h0]
      have r2 : exD 0 X Y = 0 := by simp [exD, h0]
      rw [r1, r2]
      clear r1 r2
      have IZ : Hid (∀ w1 a b c d, Wh w1 a b c d (X.tmod Y) → Calls Try.prog 41 #[.agg #[.bool a, .slice b c d]] w1 fun r w' => r = .returned (.bool false) ∧ Gr w1 w') := fun w1 a b c d h => by
        have T := intZeroK a b c d _ w1 h
        rw [decide_eq_false h0] at T
        exact T
      clear h0
      go_enter Try.func17, Try.ntmps17
      go_wp2_with (first | (go_at_call 16; (with_reducible refine (TT.out _ GW).mono ?_); rintro r w1 ⟨a1, q1, m1, d1, a2, q2, m2, d2, rfl, W1, W2, F1, F2, g1⟩; have gx : Gr w1 ((w1.alloc (.cells #[.bool a1, .slice q1 m1 d1] 24)).alloc (.cells #[.bool a2, .slice q2 m2 d2] 24)) := ((Gr.refl w1).alloc _).alloc _; obtain ⟨H7, H8⟩ := blk2 w1 (.cells #[.bool a1, .slice q1 m1 d1] 24) (.cells #[.bool a2, .slice q2 m2 d2] 24); have sz0 := HB.o; have sz1 := lt_of_get2 sz0; have sz2 := g1.size; clear sz0; replace W1 := hide (W1.out.gr gx); replace W2 := hide (W2.out.gr gx); replace F1 := hide ((F1.out.low GW.size).gr gx); replace F2 := hide ((F2.out.low GW.size).gr gx); replace HB := (HB.gr g1).gr gx; replace GW := (GW.trans g1).trans gx; clear k0 k1 k2 k3 z0 z1 y0 y1; clear gx g1; obtain ⟨k0, k1⟩ := bx2 HB.a; obtain ⟨k2, k3⟩ := bx2 HB.b; obtain ⟨z0, z1, y0, y1⟩ := outAny HB.o; obtain ⟨k4, k5⟩ := bx2 H7; obtain ⟨k6, k7⟩ := bx2 H8) | (go_at_call 41; (with_reducible refine (IZ.out _ a2 q2 m2 d2 W2.out).mono ?_); rintro r w2 ⟨rfl, g2⟩; replace W1 := hide (W1.out.gr g2); replace F1 := hide (F1.out.gr g2); clear W2 F2; replace HB := HB.gr g2; replace GW := GW.trans g2; replace H7 := keepO g2 H7; clear k0 k1 k2 k3 z0 z1 y0 y1; clear k4 k5 k6 k7 g2; obtain ⟨k0, k1⟩ := bx2 HB.a; obtain ⟨k2, k3⟩ := bx2 HB.b; obtain ⟨z0, z1, y0, y1⟩ := outAny HB.o; obtain ⟨k4, k5⟩ := bx2 H7))
      have P4 := put2_block HB.o (.bool false) (.slice none 0 0)
      obtain ⟨e0, e1⟩ := bx2 P4
      refine bodyPost_ret (v := .tuple #[.agg #[.bool false, .slice none 0 0], .bool false, .int .i64 0]) ?_ rfl ⟨⟨false, none, 0, 0, rfl, Wh.nil _, Fresh.nil _ _⟩, ((GW.setCell (p := ⟨(w.heap.size + 1 + 1), 0, none⟩) (by show _ ≤ (w.heap.size + 1 + 1); omega) (.bool false)).setCell (p := ⟨(w.heap.size + 1 + 1), 1, none⟩) (by show _ ≤ (w.heap.size + 1 + 1); omega) (.slice none 0 0))⟩
      simp [results, Try.results17, go_sem, e0, e1]
  · have r1 : okD E X Y = false := by simp [okD, hE0]
    have r2 : exD E X Y = 0 := by simp [exD, hE0]
    rw [r1, r2]
    have hE9 : (E == 0) = false := by simp [hE0]
    clear r1 r2
    go_enter Try.func17, Try.ntmps17
    go_wp2_with (go_at_call 16; (with_reducible refine (TT.out _ GW).mono ?_); rintro r w1 ⟨a1, q1, m1, d1, a2, q2, m2, d2, rfl, W1, W2, F1, F2, g1⟩; have gx : Gr w1 ((w1.alloc (.cells #[.bool a1, .slice q1 m1 d1] 24)).alloc (.cells #[.bool a2, .slice q2 m2 d2] 24)) := ((Gr.refl w1).alloc _).alloc _; obtain ⟨H7, H8⟩ := blk2 w1 (.cells #[.bool a1, .slice q1 m1 d1] 24) (.cells #[.bool a2, .slice q2 m2 d2] 24); have sz0 := HB.o; have sz1 := lt_of_get2 sz0; have sz2 := g1.size; clear sz0; replace W1 := hide (W1.out.gr gx); replace W2 := hide (W2.out.gr gx); replace F1 := hide ((F1.out.low GW.size).gr gx); replace F2 := hide ((F2.out.low GW.size).gr gx); replace HB := (HB.gr g1).gr gx; replace GW := (GW.trans g1).trans gx; clear k0 k1 k2 k3 z0 z1 y0 y1; clear gx g1; obtain ⟨k0, k1⟩ := bx2 HB.a; obtain ⟨k2, k3⟩ := bx2 HB.b; obtain ⟨z0, z1, y0, y1⟩ := outAny HB.o; obtain ⟨k4, k5⟩ := bx2 H7; obtain ⟨k6, k7⟩ := bx2 H8)
    have P4 := put2_block HB.o (.bool false) (.slice none 0 0)
    obtain ⟨e0, e1⟩ := bx2 P4
    refine bodyPost_ret (v := .tuple #[.agg #[.bool false, .slice none 0 0], .bool false, .int .i64 E]) ?_ rfl ⟨⟨false, none, 0, 0, rfl, Wh.nil _, Fresh.nil _ _⟩, ((GW.setCell (p := ⟨(w.heap.size + 1 + 1), 0, none⟩) (by show _ ≤ (w.heap.size + 1 + 1); omega) (.bool false)).setCell (p := ⟨(w.heap.size + 1 + 1), 1, none⟩) (by show _ ≤ (w.heap.size + 1 + 1); omega) (.slice none 0 0))⟩
    simp [results, Try.results17, go_sem, e0, e1]
theorem wrD_neg {ys : List Nat} {a : Bool} {n : Nat} (hl : ys.length = n) : wrD a (rightN true ys) n = 0 ∨ wrD a (rightN true ys) n = 2 := by
  unfold wrD
  by_cases h : a = true ∧ rightN true ys = true
  · rw [if_pos h]
    have : n ≠ 0 := by
      rcases rightN_of h.2 with ⟨_, h2⟩ | ⟨h2, _⟩
      · cases h2
      · omega
    rw [if_neg this]
    exact Or.inl rfl
  · rw [if_neg h]
    exact Or.inr rfl
set_option maxRecDepth 4000 in
set_option maxHeartbeats 4000000 in
theorem rModA (s t : Bool) (ad1 ad2 : Option Addr) (n1 n2 c1 c2 : Nat) (xs ys : List Nat) (w : World) (rx : Row w ad1 n1 c1 xs) (ry : Row w ad2 n2 c2 ys) (hx : ∀ x ∈ xs, x < 18446744073709551616) (hy : ∀ x ∈ ys, x < 18446744073709551616) (E : Int) (hE : wmD t (rightN s xs) (rightN t ys) n2 = E) :
    Calls Try.prog 18 #[.agg #[.bool s, .slice ad1 n1 c1], .agg #[.bool t, .slice ad2 n2 c2]] w fun r w' => An1 w' r E (zD E ((iv s (nv 18446744073709551616 xs)).fmod (iv t (nv 18446744073709551616 ys)))) w.heap.size ∧ Gr w w' := by
  have HB := Bx3.mk' w s t ad1 n1 c1 ad2 n2 c2
  have GW : Gr w (((w.alloc (.cells #[.bool s, .slice ad1 n1 c1] 24)).alloc (.cells #[.bool t, .slice ad2 n2 c2] 24)).alloc (.cells #[.bool false, .slice none 0 0] 24)) := (((Gr.refl w).alloc _).alloc _).alloc _
  obtain ⟨D, hD⟩ : ∃ D, wrD (rightN s xs) (rightN t ys) n2 = D := ⟨_, rfl⟩
  have TT : Hid (∀ w1, Gr w w1 → Calls Try.prog 15 #[.agg #[.bool s, .slice ad1 n1 c1], .agg #[.bool t, .slice ad2 n2 c2]] w1 fun r w' => ∃ a b c d a' b' c' d', r = .returned (.tuple #[.agg #[.bool a, .slice b c d], .agg #[.bool a', .slice b' c' d'], .int .i64 D]) ∧ Hid (Wh w' a b c d (zD D ((iv s (nv 18446744073709551616 xs)).fdiv (iv t (nv 18446744073709551616 ys))))) ∧ Hid (Wh w' a' b' c' d' (zD D ((iv s (nv 18446744073709551616 xs)).fmod (iv t (nv 18446744073709551616 ys))))) ∧ Hid (Fresh w1.heap.size w' b c d) ∧ Hid (Fresh w1.heap.size w' b' c' d') ∧ Gr w1 w') := fun w1 g => (rFloorA s t ad1 ad2 n1 n2 c1 c2 xs ys w1 (rx.gr g) (ry.gr g) hx hy D hD).mono fun r w' ⟨⟨a, b, c, d, a', b', c', d', h1, h2, h3, h4, h5⟩, h6⟩ => ⟨a, b, c, d, a', b', c', d', h1, h2, h3, h4, h5, h6⟩
  have hl := ry.len
  clear rx ry hx hy
  generalize (iv s (nv 18446744073709551616 xs)) = X at *
  by_cases hD0 : D = 0
  · subst hD0
    rw [zD_0, zD_0] at TT
    cases t
    · have e : E = 0 := by rw [← hE, ← hD]; rfl
      subst e
      rw [zD_0]
      clear hE hD hl
      generalize (iv false (nv 18446744073709551616 ys)) = Y at *
      obtain ⟨k0, k1⟩ := bx2 HB.a; obtain ⟨k2, k3⟩ := bx2 HB.b; obtain ⟨z0, z1, y0, y1⟩ := outAny HB.o
      go_enter Try.func18, Try.ntmps18
      go_wp2_with (go_at_call 15; (with_reducible refine (TT.out _ GW).mono ?_); rintro r w1 ⟨a1, q1, m1, d1, a2, q2, m2, d2, rfl, W1, W2, F1, F2, g1⟩; have gx : Gr w1 ((w1.alloc (.cells #[.bool a1, .slice q1 m1 d1] 24)).alloc (.cells #[.bool a2, .slice q2 m2 d2] 24)) := ((Gr.refl w1).alloc _).alloc _; obtain ⟨H7, H8⟩ := blk2 w1 (.cells #[.bool a1, .slice q1 m1 d1] 24) (.cells #[.bool a2, .slice q2 m2 d2] 24); have sz0 := HB.o; have sz1 := lt_of_get2 sz0; have sz2 := g1.size; clear sz0; replace W1 := hide (W1.out.gr gx); replace W2 := hide (W2.out.gr gx); replace F1 := hide ((F1.out.low GW.size).gr gx); replace F2 := hide ((F2.out.low GW.size).gr gx); replace HB := (HB.gr g1).gr gx; replace GW := (GW.trans g1).trans gx; clear k0 k1 k2 k3 z0 z1 y0 y1; clear gx g1; obtain ⟨k0, k1⟩ := bx2 HB.a; obtain ⟨k2, k3⟩ := bx2 HB.b; obtain ⟨z0, z1, y0, y1⟩ := outAny HB.o; obtain ⟨k4, k5⟩ := bx2 H7; obtain ⟨k6, k7⟩ := bx2 H8)
      have V1 := wh_set2W W2.out F2.out HB.o (.bool a2) (.slice q2 m2 d2) (by decide)
      have Y1 := fresh_set2 F2.out HB.o (.bool a2) (.slice q2 m2 d2) (by decide)
      have P4 := put2_block HB.o (.bool a2) (.slice q2 m2 d2)
      obtain ⟨e0, e1⟩ := bx2 P4
      refine bodyPost_ret (v := .tuple #[.agg #[.bool a2, .slice q2 m2 d2], .int .i64 0]) ?_ rfl ⟨⟨a2, q2, m2, d2, rfl, V1, Y1⟩, ((GW.setCell (p := ⟨(w.heap.size + 1 + 1), 0, none⟩) (by show _ ≤ (w.heap.size + 1 + 1); omega) (.bool a2)).setCell (p := ⟨(w.heap.size + 1 + 1), 1, none⟩) (by show _ ≤ (w.heap.size + 1 + 1); omega) (.slice q2 m2 d2))⟩
      simp [results, Try.results18, go_sem, e0, e1]
    · have e : E = 2 := by rw [← hE]; rfl
      subst e
      rw [zD_n (by decide)]
      clear hE hD hl
      generalize (iv true (nv 18446744073709551616 ys)) = Y at *
      obtain ⟨k0, k1⟩ := bx2 HB.a; obtain ⟨k2, k3⟩ := bx2 HB.b; obtain ⟨z0, z1, y0, y1⟩ := outAny HB.o
      go_enter Try.func18, Try.ntmps18
      go_wp2_with (go_at_call 15; (with_reducible refine (TT.out _ GW).mono ?_); rintro r w1 ⟨a1, q1, m1, d1, a2, q2, m2, d2, rfl, W1, W2, F1, F2, g1⟩; have gx : Gr w1 ((w1.alloc (.cells #[.bool a1, .slice q1 m1 d1] 24)).alloc (.cells #[.bool a2, .slice q2 m2 d2] 24)) := ((Gr.refl w1).alloc _).alloc _; obtain ⟨H7, H8⟩ := blk2 w1 (.cells #[.bool a1, .slice q1 m1 d1] 24) (.cells #[.bool a2, .slice q2 m2 d2] 24); have sz0 := HB.o; have sz1 := lt_of_get2 sz0; have sz2 := g1.size; clear sz0; replace W1 := hide (W1.out.gr gx); replace W2 := hide (W2.out.gr gx); replace F1 := hide ((F1.out.low GW.size).gr gx); replace F2 := hide ((F2.out.low GW.size).gr gx); replace HB := (HB.gr g1).gr gx; replace GW := (GW.trans g1).trans gx; clear k0 k1 k2 k3 z0 z1 y0 y1; clear gx g1; obtain ⟨k0, k1⟩ := bx2 HB.a; obtain ⟨k2, k3⟩ := bx2 HB.b; obtain ⟨z0, z1, y0, y1⟩ := outAny HB.o; obtain ⟨k4, k5⟩ := bx2 H7; obtain ⟨k6, k7⟩ := bx2 H8)
      have P4 := put2_block HB.o (.bool false) (.slice none 0 0)
      obtain ⟨e0, e1⟩ := bx2 P4
      refine bodyPost_ret (v := .tuple #[.agg #[.bool false, .slice none 0 0], .int .i64 2]) ?_ rfl ⟨⟨false, none, 0, 0, rfl, Wh.nil _, Fresh.nil _ _⟩, ((GW.setCell (p := ⟨(w.heap.size + 1 + 1), 0, none⟩) (by show _ ≤ (w.heap.size + 1 + 1); omega) (.bool false)).setCell (p := ⟨(w.heap.size + 1 + 1), 1, none⟩) (by show _ ≤ (w.heap.size + 1 + 1); omega) (.slice none 0 0))⟩
      simp [results, Try.results18, go_sem, e0, e1]
  · have e : E = D := by
      rw [← hE]
      cases t
      · rw [← hD]; rfl
      · rcases wrD_neg (a := rightN s xs) hl with h | h
        · exact absurd (hD.symm.trans h) hD0
        · rw [← hD, h]; rfl
    subst e
    rw [zD_n hD0]
    have hE9 : (E == 0) = false := by simp [hD0]
    clear hE hD hl
    generalize (iv t (nv 18446744073709551616 ys)) = Y at *
    obtain ⟨k0, k1⟩ := bx2 HB.a; obtain ⟨k2, k3⟩ := bx2 HB.b; obtain ⟨z0, z1, y0, y1⟩ := outAny HB.o
    go_enter Try.func18, Try.ntmps18
    go_wp2_with (go_at_call 15; (with_reducible refine (TT.out _ GW).mono ?_); rintro r w1 ⟨a1, q1, m1, d1, a2, q2, m2, d2, rfl, W1, W2, F1, F2, g1⟩; have gx : Gr w1 ((w1.alloc (.cells #[.bool a1, .slice q1 m1 d1] 24)).alloc (.cells #[.bool a2, .slice q2 m2 d2] 24)) := ((Gr.refl w1).alloc _).alloc _; obtain ⟨H7, H8⟩ := blk2 w1 (.cells #[.bool a1, .slice q1 m1 d1] 24) (.cells #[.bool a2, .slice q2 m2 d2] 24); have sz0 := HB.o; have sz1 := lt_of_get2 sz0; have sz2 := g1.size; clear sz0; replace W1 := hide (W1.out.gr gx); replace W2 := hide (W2.out.gr gx); replace F1 := hide ((F1.out.low GW.size).gr gx); replace F2 := hide ((F2.out.low GW.size).gr gx); replace HB := (HB.gr g1).gr gx; replace GW := (GW.trans g1).trans gx; clear k0 k1 k2 k3 z0 z1 y0 y1; clear gx g1; obtain ⟨k0, k1⟩ := bx2 HB.a; obtain ⟨k2, k3⟩ := bx2 HB.b; obtain ⟨z0, z1, y0, y1⟩ := outAny HB.o; obtain ⟨k4, k5⟩ := bx2 H7; obtain ⟨k6, k7⟩ := bx2 H8)
    have P4 := put2_block HB.o (.bool false) (.slice none 0 0)
    obtain ⟨e0, e1⟩ := bx2 P4
    refine bodyPost_ret (v := .tuple #[.agg #[.bool false, .slice none 0 0], .int .i64 E]) ?_ rfl ⟨⟨false, none, 0, 0, rfl, Wh.nil _, Fresh.nil _ _⟩, ((GW.setCell (p := ⟨(w.heap.size + 1 + 1), 0, none⟩) (by show _ ≤ (w.heap.size + 1 + 1); omega) (.bool false)).setCell (p := ⟨(w.heap.size + 1 + 1), 1, none⟩) (by show _ ≤ (w.heap.size + 1 + 1); omega) (.slice none 0 0))⟩
    simp [results, Try.results18, go_sem, e0, e1]
end Go.Proofs.Ytobceegpcimdgaa
namespace Go.Proofs.Ytobceegpcimdgaa
open Go.RowKit
set_option linter.unusedVariables false

theorem Gr.keep {wo wn : World} (g : Gr wo wn) {b o : Nat} {v : Value} (h : wo.cell? ⟨b, o, none⟩ = some v) : wn.cell? ⟨b, o, none⟩ = some v :=
  (g.cell (p := ⟨b, o, none⟩) (lt_of_cell' h)).trans h
theorem Lim.apart {w : World} {ad : Option Addr} {n cap B x : Nat} (h : Lim w ad n cap B x) {B2 : Nat} {p : Bool} {s0 : Option Addr} {l0 c0 : Nat} {i0 : Int} {T : TypeId} {fr : Nat × Nat} (hb : w.heap[B2]? = some (.cells #[.bool p, .slice s0 l0 c0, .int .i64 i0] T fr)) : 0 < n → ∀ a, ad = some a → a.block ≠ B2 := by
  obtain ⟨xs, h1, h2⟩ := h
  intro hp a ha he
  obtain ⟨b, off, hab, _, hc⟩ := h1.cells hp
  rw [ha] at hab
  injection hab with hab
  have h0 := hc 0 hp
  rw [hab] at he
  have he : b = B2 := he
  subst he
  simp only [World.cell?, hb] at h0
  match off, h0 with
  | 0, h0 => simp at h0
  | 1, h0 => simp at h0
  | 2, h0 => simp at h0
  | k + 3, h0 => simp at h0
end Go.Proofs.Ytobceegpcimdgaa
namespace Go.Proofs.Ytobceegpcimdgaa
open Go.RowKit
set_option linter.unusedVariables false

end Go.Proofs.Ytobceegpcimdgaa
namespace Go.Proofs.Ytobceegpcimdgaa
open Go.RowKit
set_option linter.unusedVariables false

end Go.Proofs.Ytobceegpcimdgaa
namespace Go.Proofs.Ytobceegpcimdgaa
open Go.RowKit
open Ieee
set_option linter.unusedVariables false

end Go.Proofs.Ytobceegpcimdgaa
namespace Go.Proofs.Ytobceegpcimdgaa
open Go.RowKit
set_option linter.unusedVariables false

end Go.Proofs.Ytobceegpcimdgaa
namespace Go.Proofs.Ytobceegpcimdgaa
open Go.RowKit
set_option linter.unusedVariables false

end Go.Proofs.Ytobceegpcimdgaa
namespace Go.Proofs.Ytobceegpcimdgaa
open Go.RowKit
set_option linter.unusedVariables false

end Go.Proofs.Ytobceegpcimdgaa
namespace Go.Proofs.Ytobceegpcimdgaa
open Go.RowKit
set_option linter.unusedVariables false

/-! an exact answer held against a float -/
end Go.Proofs.Ytobceegpcimdgaa
namespace Go.Proofs.Ytobceegpcimdgaa
open Go.RowKit
set_option linter.unusedVariables false

/-! rosetteref00: RightInt, Int, TellInt; rosetteref13.Told -/
end Go.Proofs.Ytobceegpcimdgaa
namespace Go.Proofs.Ytobceegpcimdgaa
open Go.RowKit
set_option linter.unusedVariables false

def TolR (w : World) (a : Bool) (b : Option Addr) (c d : Nat) (e X : Int) : Prop :=
  (X.natAbs < TopN ∧ e = 0 ∧ Wh w a b c d X) ∨ (TopN ≤ X.natAbs ∧ a = false ∧ b = none ∧ c = 0 ∧ d = 0 ∧ e = 3)
theorem TolR.gr {w w' : World} {a : Bool} {b : Option Addr} {c d : Nat} {e X : Int} (h : TolR w a b c d e X) (g : Gr w w') : TolR w' a b c d e X := by
  rcases h with ⟨h1, h2, h3⟩ | h
  · exact Or.inl ⟨h1, h2, h3.gr g⟩
  · exact Or.inr h
end Go.Proofs.Ytobceegpcimdgaa
namespace Go.Proofs.Ytobceegpcimdgaa
open Go.RowKit
set_option linter.unusedVariables false

/-! rosetteref13: Told, both, Cmp, Add, Sub -/
theorem Wh.bl {w : World} {s : Bool} {ad : Option Addr} {n cap : Nat} {X : Int} (h : Wh w s ad n cap X) : bl X.natAbs ≤ 262144 := topN_bl.2 h.lt
end Go.Proofs.Ytobceegpcimdgaa
namespace Go.Proofs.Ytobceegpcimdgaa
open Go.RowKit
set_option linter.unusedVariables false

/-! rosetteref13: Cmp; Cmp, Add, Sub of what is not right -/
end Go.Proofs.Ytobceegpcimdgaa
namespace Go.Proofs.Ytobceegpcimdgaa
open Go.RowKit
set_option linter.unusedVariables false

/-! limb: Cmp, Add, Sub of what is not right -/
end Go.Proofs.Ytobceegpcimdgaa
namespace Go.Proofs.Ytobceegpcimdgaa
open Go.RowKit
set_option linter.unusedVariables false

def mu (k i : Nat) : Nat := 1000003 * (k + 7) + i
theorem mu_lt {k i : Nat} (h1 : k ≤ 1000) (h2 : i ≤ 10000000) : mu k i < 10000000000 := by unfold mu; omega
theorem wrapU {y : Nat} (h : y < 10000000000) : IntKind.u64.wrap ((y : Nat) : Int) = (y : Int) := by
  simp only [IntKind.wrap_u64]
  omega
theorem mark81 (k i : Nat) (w : World) (k1 : k ≤ 1000) (i1 : i ≤ 10000000) : Calls Try.prog 53 #[.int .i64 (k : Int), .int .i64 (i : Int)] w fun r w' => r = .returned (.int .i64 ((mu k i : Nat) : Int)) ∧ w = w' := by
  have e : ((mu k i : Nat) : Int) = 1000003 * ((k : Int) + 7) + (i : Int) := by unfold mu; omega
  rw [e]
  go_enter Try.func53, Try.ntmps53
  go_wp2
  go_ret
  exact ⟨rfl, rfl⟩
def ml (k n : Nat) : List Nat := (List.range n).map (mu k)
theorem ml_len (k n : Nat) : (ml k n).length = n := by simp [ml]
theorem ml_succ (k n : Nat) : ml k (n + 1) = ml k n ++ [mu k n] := by
  unfold ml
  rw [List.range_succ, List.map_append]
  rfl
theorem ml_get (k n j : Nat) (h : j < n) : (ml k n).getD j 0 = mu k j := by
  rw [List.getD_eq_getElem?_getD, List.getElem?_eq_getElem (by rw [ml_len]; exact h)]
  simp [ml]
theorem getD_leftN {xs ys : List Nat} {j : Nat} (h : j < xs.length) : (xs ++ ys).getD j 0 = xs.getD j 0 := by
  rw [List.getD_eq_getElem?_getD, List.getD_eq_getElem?_getD, List.getElem?_append_left h]
theorem ownsU_cell {w : World} {base : Nat} {g N cap : Nat} {zs : List Nat} (h : w.ownsRow base 51 1 (.slice (some ⟨g, 0, none⟩) N cap) N (u64s zs)) (j : Nat) (hj : j < N) : w.cell? ⟨g, j, none⟩ = some (.int .u64 ((zs.getD j 0 : Nat) : Int)) := by
  have hl : zs.length = N := by have := h.1; rw [u64s_length] at this; omega
  rw [h.cellAt j (by omega), u64s_getD (by omega)]
theorem Row.at {w : World} {ad : Option Addr} {n cap : Nat} {xs : List Nat} (h : Row w ad n cap xs) : ∀ b, ad = some b → ∀ j u, (u64s xs)[j]? = some u → w.cell? (b.add j) = some u := by
  intro b e j u hu
  have hj : j < n := by
    have := (List.getElem?_eq_some_iff.1 hu).1
    rw [u64s_length, h.len] at this
    exact this
  obtain ⟨b', off, e', hb, hc⟩ := h.cells (by omega)
  rw [e] at e'
  injection e' with e'
  subst e'
  rw [u64s_getD (by rw [h.len]; exact hj)] at hu
  rw [← hu, ← hc j hj]
  unfold Addr.add
  split
  · rename_i h0; subst h0; rfl
  · simp
set_option maxRecDepth 20000 in
set_option maxHeartbeats 4000000 in
theorem lent37 (ad : Option Addr) (n c : Nat) (xs : List Nat) (w : World) (hn : n ≤ 17592186044416) (hr : Row w ad n c xs) :
    Calls Try.prog 30 #[.slice ad n c] w fun r w' => ∃ g, r = .returned (.slice (some ⟨g, 0, none⟩) n (n + 12)) ∧ w'.ownsRow w.heap.size 51 1 (.slice (some ⟨g, 0, none⟩) (n + 12) (n + 12)) (n + 12) (u64s (xs ++ ml 1 12)) ∧ Gr w w' := by
  have l1 := hr.le
  have m1 := hr.max
  have hlen := hr.len
  have HR := hide hr
  have MK : Hid (∀ (i : Nat) w1, i ≤ 12 → Calls Try.prog 53 #[.int .i64 1, .int .i64 (i : Int)] w1 fun r w' => r = .returned (.int .i64 ((mu 1 i : Nat) : Int)) ∧ w1 = w') := fun i w1 h => mark81 1 i w1 (by omega) (by omega)
  clear hr
  obtain ⟨i0, hi, hz0, hz1, hz2⟩ := info_parts Try.info51
  go_enter Try.func30, Try.ntmps30
  go_wp2_with (at_make; refine wpList_make_own w rfl _ _ 22 rfl w.heap.size 51 i0 (.int .u64 0) 1 Try.underlying22 hi hz0 hz1 .i64 .i64 _ (n + 12) rfl rfl ?c1 ?c2 ?c3 ?c4 ?_)
  case' c1 => omega
  case' c2 => rw [hz2]; omega
  case' c3 => unfold maxLen; omega
  case' c4 => exact Nat.le_refl _
  intro w2 hown0 hgr0
  have g2 := hide ((Gr.refl w).grown hgr0 (fun k h => by cases h))
  have HR2 := hide (HR.out.gr g2.out)
  clear hgr0
  go_wp2_with (at_builtin; refine wpList_append_fits_any w2 rfl _ _ 22 rfl w.heap.size 51 i0 1 Try.underlying22 hi hz1 w.heap.size 0 (n + 12) [] rfl hown0 ad n c (u64s xs) rfl ?d1 ?d5 ?d2 ?d3 ?d4 ?_)
  case' d1 => rw [u64s_length, hlen]; omega
  case' d5 => exact fun e => ⟨by have := HR.out.nil e; omega, HR.out.nil e⟩
  case' d2 => exact HR2.out.at
  case' d3 => exact one_u64 _
  case' d4 => omega
  intro w3 hown1 hgr1
  have g3 := hide (g2.out.grown hgr1 (fun k h => by injection h with h; omega))
  have OW : Hid (w3.ownsRow w.heap.size 51 1 (.slice (some ⟨w.heap.size, 0, none⟩) (n + 0) (n + 12)) (n + 0) (u64s (xs ++ ml 1 0))) := by
    rw [show ml 1 0 = [] from rfl, List.append_nil]
    exact hown1
  clear g2 hown0 hown1 hgr1 HR HR2
  go_wp2
  go_loopw [3, 4] (fun v i wr => ∃ k : Nat, k ≤ 12 ∧ i = .int .i64 (k : Int) ∧ v = .slice (some ⟨w.heap.size, 0, none⟩) (n + k) (n + 12) ∧ Hid (wr.ownsRow w.heap.size 51 1 (.slice (some ⟨w.heap.size, 0, none⟩) (n + k) (n + 12)) (n + k) (u64s (xs ++ ml 1 k))) ∧ Hid (Gr w wr)) (fun _ i _ => 12 - (intOf i).toNat)
  case atStart => exact ⟨0, by omega, rfl, by simp, OW, g3⟩
  case round =>
    obtain ⟨k, hk, rfl, rfl, hown, hg⟩ := hrel
    by_cases hlt : k < 12
    · have MKk := hide (MK.out k wr hk)
      have hmu := mu_lt (k := 1) (i := k) (by omega) (by omega)
      have HMS := hide (ml_succ 1 k)
      obtain ⟨y, hy⟩ : ∃ y, mu 1 k = y := ⟨_, rfl⟩
      rw [hy] at MKk hmu HMS
      clear hy
      have hown' := hown.out.alloc (.cells #[.int .u64 (y : Int)] 51)
      go_wp2_with (first | (go_at_call 53; (with_reducible refine MKk.out.mono ?_); rintro r w1 ⟨rfl, rfl⟩) | (at_builtin; refine wpList_append_fits (wr.alloc (.cells #[.int .u64 (y : Int)] 51)) rfl _ _ 22 rfl w.heap.size 51 i0 1 Try.underlying22 hi hz1 w.heap.size (n + k) (n + 12) (u64s (xs ++ ml 1 k)) rfl hown' ⟨wr.heap.size, 0, none⟩ 1 1 (u64s [y]) rfl ?f1 ?f2 ?f3 ?f4 ?_))
      case' f1 => rfl
      case' f2 =>
        intro j u hj
        match j, hj with
        | 0, hj => simp [u64s] at hj; subst hj; simp [Addr.add]
      case' f3 => exact one_u64 _
      case' f4 => omega
      intro w5 hown2 hgr2
      have g5 := hide ((hg.out.alloc (.cells #[.int .u64 (y : Int)] 51)).grown hgr2 (fun k h => by injection h with h; omega))
      rw [← u64s_append, List.append_assoc, ← HMS.out] at hown2
      have OW2 := hide hown2
      clear hown2 hown' hgr2 MKk
      go_wp2
      go_roundw
      case rel => exact ⟨k + 1, by omega, by go_num, by rw [Nat.add_assoc], OW2, g5⟩
      case measure => simp only [intOf]; omega
    · have hkn : k = 12 := by omega
      subst hkn
      go_wp2
      go_ret
      exact ⟨_, rfl, hown.out, hg.out⟩
end Go.Proofs.Ytobceegpcimdgaa
