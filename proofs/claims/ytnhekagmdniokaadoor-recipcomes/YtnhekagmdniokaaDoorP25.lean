import Derived.Test.YtnhekagmdniokaaDoorP24
namespace Go.Proofs.YtnhekagmdniokaaDoor
open Go.RowKit
set_option linter.unusedVariables false
set_option linter.unusedSimpArgs false

theorem lim1V (w : World) : Lim (w.alloc (.cells #[.int .u64 1] 26)) (some ⟨w.heap.size, 0, none⟩) 1 1 18446744073709551616 1 := ⟨[1], row1V w, by simp [nv], by simp, by
  intro k hk
  obtain rfl : k = 0 := by simpa using hk
  simp⟩
set_option maxHeartbeats 2000000 in
theorem atMostV (ad : Option Addr) (n cap by' x : Nat) (w : World) (hx : Lim w ad n cap 18446744073709551616 x) (hn : n ≤ 1099511600000) (hb : by' ≤ 1099511620000) :
    Calls Tryd.prog 40 #[.slice ad n cap, .int .i64 (by' : Int)] w fun e w' => e = .returned (.bool (decide (x ≤ 2 ^ by'))) ∧ Gr w w' := by
  have GA : Gr w (w.alloc (.cells #[.int .u64 1] 26)) := (Gr.refl w).alloc _
  have OV := hide (overV ad n cap by' x (w.alloc (.cells #[.int .u64 1] 26)) (hx.gr GA) (by omega) hb)
  have LO := hide (lim1V w)
  have EQ : (decide (1 < (x + (2 ^ by' - 1)) / 2 ^ by')) = !(decide (x ≤ 2 ^ by')) := by
    have hP := Nat.two_pow_pos by'
    generalize 2 ^ by' = P at *
    by_cases h : x ≤ P
    · rw [decide_eq_true h, decide_eq_false]
      · rfl
      · have : (x + (P - 1)) / P < 2 := Nat.div_lt_of_lt_mul (by omega)
        omega
    · rw [decide_eq_false h, decide_eq_true]
      · rfl
      · exact (Nat.le_div_iff_mul_le hP).2 (by omega)
  have HEQ := hide EQ
  clear hx EQ
  go_enter Tryd.func40, Tryd.ntmps40
  go_wp2_with (first | (go_at_call 42; (with_reducible refine OV.out.mono ?_); rintro r w1 ⟨ad2, n2, c2, rfl, hn2, L2, F2, g1⟩) | (go_at_call 58; (with_reducible refine (belowV _ _ _ _ _ _ _ _ _ (LO.out.gr g1) L2.out (by omega) (by omega)).mono ?_); rintro r w2 ⟨rfl, g2⟩; rw [HEQ.out]))
  go_ret
  exact ⟨by simp, (GA.trans g1).trans g2⟩
theorem rightLim (sg : Bool) (ad : Option Addr) (nn cc v : Nat) (w : World) (L : Lim w ad nn cc 18446744073709551616 v) (hs : sg = true → 0 < v) :
    Calls Tryd.prog 23 #[.agg #[.bool sg, .slice ad nn cc]] w fun r w' => r = .returned (.bool (decide (v < TopN))) ∧ Gr w w' := by
  obtain ⟨zs, rz, dz⟩ := L
  have h1 := topN_len dz
  have h2 := dz.zero_iff (by omega)
  have h3 : RightN sg zs ↔ v < TopN := by
    unfold RightN
    rw [← h1]
    constructor
    · rintro (⟨h, _⟩ | ⟨_, h, _⟩) <;> omega
    · intro h
      by_cases h0 : zs.length = 0
      · refine Or.inl ⟨h0, ?_⟩
        cases sg
        · rfl
        · have := hs rfl; omega
      · exact Or.inr ⟨by omega, h, dz.2.2 (zs.length - 1) (by omega)⟩
  have h4 := rightL sg ad nn cc zs w rz
  have h5 : rightN sg zs = decide (v < TopN) := by
    by_cases h : v < TopN
    · rw [rightN_t (h3.2 h), decide_eq_true h]
    · rw [rightN_f (fun k => h (h3.1 k)), decide_eq_false h]
  rw [h5] at h4
  exact h4
/-- a number's box, and one for the answer behind it -/
structure Bx2 (w : World) (p : Nat) (s : Bool) (ad1 : Option Addr) (n1 c1 : Nat) : Prop where
  a : w.heap[p]? = some (.cells #[.bool s, .slice ad1 n1 c1] 24)
  ob : w.heap[p + 1]? = some (.cells #[.bool false, .slice none 0 0] 24)
theorem Bx2.mk' (w : World) (s : Bool) (ad1 : Option Addr) (n1 c1 : Nat) : Bx2 ((w.alloc (.cells #[.bool s, .slice ad1 n1 c1] 24)).alloc (.cells #[.bool false, .slice none 0 0] 24)) w.heap.size s ad1 n1 c1 := ⟨(blk2 w _ _).1, (blk2 w _ _).2⟩
theorem Bx2.gr {w w' : World} {p : Nat} {s : Bool} {ad1 : Option Addr} {n1 c1 : Nat} (h : Bx2 w p s ad1 n1 c1) (g : Gr w w') : Bx2 w' p s ad1 n1 c1 := ⟨keepO g h.a, keepO g h.ob⟩
theorem Bx2.a0 {w : World} {p : Nat} {s : Bool} {ad1 : Option Addr} {n1 c1 : Nat} (h : Bx2 w p s ad1 n1 c1) : w.cell? ⟨p, 0, none⟩ = some (.bool s) := (bx2 h.a).1
theorem Bx2.a1 {w : World} {p : Nat} {s : Bool} {ad1 : Option Addr} {n1 c1 : Nat} (h : Bx2 w p s ad1 n1 c1) : w.cell? ⟨p, 1, none⟩ = some (.slice ad1 n1 c1) := (bx2 h.a).2
theorem Bx2.o {w : World} {p : Nat} {s : Bool} {ad1 : Option Addr} {n1 c1 : Nat} (h : Bx2 w p s ad1 n1 c1) : Out2 w (p + 1) := Out2.of h.ob
theorem heap_far {w : World} {q k i : Nat} {v : Value} {o : Obj} (h : w.heap[k]? = some o) (hk : k ≠ q) : (w.setCell ⟨q, i, none⟩ v).heap[k]? = some o := (Below.heap_setCell _ _ _ _ (by omega)).trans h
theorem Bx2.far {w : World} {p q : Nat} {s : Bool} {ad1 : Option Addr} {n1 c1 : Nat} (h : Bx2 w p s ad1 n1 c1) {i0 i1 : Value} (hq : p + 1 < q) : Bx2 ((w.setCell ⟨q, 0, none⟩ i0).setCell ⟨q, 1, none⟩ i1) p s ad1 n1 c1 :=
  ⟨heap_far (heap_far h.a (by omega)) (by omega), heap_far (heap_far h.ob (by omega)) (by omega)⟩
set_option maxRecDepth 8000 in
set_option maxHeartbeats 8000000 in
theorem twiceN (s : Bool) (ad1 ad2 : Option Addr) (n1 n2 c1 c2 y : Nat) (X : Int) (w : World) (hx : Wh w s ad1 n1 c1 X) (hy : Lim w ad2 n2 c2 18446744073709551616 y) (hn2 : n2 ≤ 1000000) (hs : s = true) :
    Calls Tryd.prog 43 #[.agg #[.bool true, .slice ad1 n1 c1], .slice ad2 n2 c2] w fun r w' => ∃ a b c d e, r = .returned (.tuple #[.agg #[.bool a, .slice b c d], .int .i64 e]) ∧ Hid (Tol w.heap.size w' a b c d e (2 * X - (y : Int))) ∧ Gr w w' := by
  have hle := hx.le
  have HL := hide hx.lim
  have HY := hide hy
  have EQX := hide hx.val
  have hzr := hx.n0
  have hneg := hx.neg_iff
  obtain ⟨x, hxa⟩ : ∃ x, X.natAbs = x := ⟨_, rfl⟩
  rw [hxa] at HL EQX
  subst hs
  have hxp : 0 < x := by have := hneg.1 rfl; omega
  clear hx hy hxa hzr hneg
  have HB := Bx2.mk' w true ad1 n1 c1
  have GW : Gr w ((w.alloc (.cells #[.bool true, .slice ad1 n1 c1] 24)).alloc (.cells #[.bool false, .slice none 0 0] 24)) := ((Gr.refl w).alloc _).alloc _
  have k0 := HB.a0
  have k1 := HB.a1
  obtain ⟨z0, z1, z2, z3⟩ := HB.o
  have tok0 : True := trivial
  go_enter Tryd.func43, Tryd.ntmps43
  go_wp2_with (first | (go_at_call 65; have _t := tok0; (with_reducible refine (sumV _ _ _ _ _ _ x x _ (HL.out.gr GW) (HL.out.gr GW) (by omega) (by omega)).mono ?_); rintro r w2 ⟨b3, c3, d3, rfl, hn3, L3, F3, g2⟩; clear tok0; have tok1 : True := trivial; replace HB := HB.gr g2; clear k0 k1 z0 z1 z2 z3; have k0 := HB.a0; have k1 := HB.a1; obtain ⟨z0, z1, z2, z3⟩ := HB.o; replace GW := GW.trans g2; have hq : w.heap.size + 1 < w2.heap.size := lt_of_get2 HB.ob; have HX := blk1 w2 (.cells #[.bool false, .slice none 0 0] 24); obtain ⟨x0, x1, x2, x3⟩ := Out2.of HX; have gx : Gr w2 (w2.alloc (.cells #[.bool false, .slice none 0 0] 24)) := (Gr.refl w2).alloc _; replace HB := HB.gr gx; clear k0 k1 z0 z1 z2 z3; have k0 := HB.a0; have k1 := HB.a1; obtain ⟨z0, z1, z2, z3⟩ := HB.o; replace GW := GW.trans gx; have L3' := L3.out.gr gx; have F3' := F3.out.gr gx; clear L3 F3) | (go_at_call 65; have _t := tok1; (with_reducible refine (sumV _ _ _ _ _ _ (x + x) y _ L3' (HY.out.gr GW) (by omega) (by omega)).mono ?_); rintro r w5 ⟨b5, c5, d5, rfl, hn5, L5, F5, g5⟩; clear tok1; have tok2 : True := trivial; have hws5 := GW.size; replace HB := HB.gr g5; clear k0 k1 z0 z1 z2 z3; have k0 := HB.a0; have k1 := HB.a1; obtain ⟨z0, z1, z2, z3⟩ := HB.o; replace GW := GW.trans g5; replace HX := keepO g5 HX; clear x0 x1 x2 x3; obtain ⟨x0, x1, x2, x3⟩ := Out2.of HX))
  have L5 := L5.out
  have F5 := F5.out.low hws5
  have hqw : w.heap.size ≤ w2.heap.size := by omega
  generalize w2.heap.size = q at *
  have hbx4 := put2_block HX (.bool true) (.slice b5 c5 d5)
  have HB4 := HB.far (i0 := .bool true) (i1 := .slice b5 c5 d5) hq
  have L4 := lim_set2 L5 F5 HX (.bool true) (.slice b5 c5 d5) (by decide)
  have F4 := fresh_set2 F5 HX (.bool true) (.slice b5 c5 d5) (by decide)
  have G4 : Gr w ((w5.setCell ⟨q, 0, none⟩ (.bool true)).setCell ⟨q, 1, none⟩ (.slice b5 c5 d5)) := (GW.setCell (p := ⟨q, 0, none⟩) hqw _).setCell (p := ⟨q, 1, none⟩) hqw _
  generalize ((w5.setCell ⟨q, 0, none⟩ (.bool true)).setCell ⟨q, 1, none⟩ (.slice b5 c5 d5)) = w6 at *
  clear HB GW HX L5 F5 k0 k1 z0 z1 z2 z3 x0 x1 x2 x3
  have HB := HB4
  have GW := G4
  clear HB4 G4
  have k0 := HB.a0
  have k1 := HB.a1
  obtain ⟨z0, z1, z2, z3⟩ := HB.o
  obtain ⟨x0, x1⟩ := bx2 hbx4
  have RR := hide (rightLim true b5 c5 d5 (x + x + y) w6 L4 (by simp; try omega))
  have EV : Hid (2 * X - (y : Int) = iv true (x + x + y)) := by
    show _ = _
    rw [EQX.out]
    simp only [iv]
    try simp
    omega
  have AB : Hid ((2 * X - (y : Int)).natAbs = x + x + y) := by show _ = _; rw [EV.out, iv_abs]
  by_cases hT : x + x + y < TopN
  · rw [decide_eq_true hT] at RR
    have WH : Hid (Wh w6 true b5 c5 d5 (2 * X - (y : Int))) := by
      show Wh _ _ _ _ _ _
      rw [EV.out]
      refine wh_iv L4 ?_ (by simp; try omega)
      obtain ⟨zs, rz, dz⟩ := L4
      have := (topN_len dz).2 hT
      rw [rz.len] at this
      exact this
    have HT : Hid ((2 * X - (y : Int)).natAbs < TopN) := by show _ < _; rw [AB.out]; exact hT
    have F4' := hide F4
    clear L4 hT EV AB F4
    go_wp2_with (go_at_call 23; (with_reducible refine RR.out.mono ?_); rintro r w7 ⟨rfl, g7⟩; replace HB := HB.gr g7; clear k0 k1 z0 z1 z2 z3; have k0 := HB.a0; have k1 := HB.a1; obtain ⟨z0, z1, z2, z3⟩ := HB.o; replace GW := GW.trans g7; replace hbx4 := keepO g7 hbx4; clear x0 x1; obtain ⟨x0, x1⟩ := bx2 hbx4)
    have hG : Hid (Gr w ((w7.setCell ⟨w.heap.size + 1, 0, none⟩ (.bool true)).setCell ⟨w.heap.size + 1, 1, none⟩ (.slice b5 c5 d5))) := (GW.setCell (p := ⟨w.heap.size + 1, 0, none⟩) (by show _ ≤ w.heap.size + 1; omega) _).setCell (p := ⟨w.heap.size + 1, 1, none⟩) (by show _ ≤ w.heap.size + 1; omega) _
    have T8 : Hid (Tol w.heap.size ((w7.setCell ⟨w.heap.size + 1, 0, none⟩ (.bool true)).setCell ⟨w.heap.size + 1, 1, none⟩ (.slice b5 c5 d5)) true b5 c5 d5 0 (2 * X - (y : Int))) := (show Tol w.heap.size w7 true b5 c5 d5 0 (2 * X - (y : Int)) from Or.inl ⟨HT.out, rfl, WH.out.gr g7, F4'.out.gr g7⟩).set2 HB.ob (.bool true) (.slice b5 c5 d5) (by decide)
    refine bodyPost_ret (v := .tuple #[.agg #[.bool true, .slice b5 c5 d5], .int .i64 0]) ?_ rfl ⟨true, b5, c5, d5, 0, rfl, T8.out, hG.out⟩
    simp [results, Tryd.results43, go_sem, z0, z1]
  · rw [decide_eq_false hT] at RR
    have HT : Hid (TopN ≤ (2 * X - (y : Int)).natAbs) := by show _ ≤ _; rw [AB.out]; exact Nat.not_lt.1 hT
    clear L4 hT EV AB F4
    go_wp2_with (go_at_call 23; (with_reducible refine RR.out.mono ?_); rintro r w7 ⟨rfl, g7⟩; replace HB := HB.gr g7; clear k0 k1 z0 z1 z2 z3; have k0 := HB.a0; have k1 := HB.a1; obtain ⟨z0, z1, z2, z3⟩ := HB.o; replace GW := GW.trans g7; replace hbx4 := keepO g7 hbx4; clear x0 x1; obtain ⟨x0, x1⟩ := bx2 hbx4)
    have hG : Hid (Gr w ((w7.setCell ⟨w.heap.size + 1, 0, none⟩ (.bool false)).setCell ⟨w.heap.size + 1, 1, none⟩ (.slice none 0 0))) := (GW.setCell (p := ⟨w.heap.size + 1, 0, none⟩) (by show _ ≤ w.heap.size + 1; omega) _).setCell (p := ⟨w.heap.size + 1, 1, none⟩) (by show _ ≤ w.heap.size + 1; omega) _
    have T8 : Hid (Tol w.heap.size ((w7.setCell ⟨w.heap.size + 1, 0, none⟩ (.bool false)).setCell ⟨w.heap.size + 1, 1, none⟩ (.slice none 0 0)) false none 0 0 3 (2 * X - (y : Int))) := Or.inr ⟨HT.out, rfl, rfl, rfl, rfl, rfl⟩
    refine bodyPost_ret (v := .tuple #[.agg #[.bool false, .slice none 0 0], .int .i64 3]) ?_ rfl ⟨false, none, 0, 0, 3, rfl, T8.out, hG.out⟩
    simp [results, Tryd.results43, go_sem, z0, z1]
set_option maxRecDepth 8000 in
set_option maxHeartbeats 8000000 in
theorem twiceL (s : Bool) (ad1 ad2 : Option Addr) (n1 n2 c1 c2 y : Nat) (X : Int) (w : World) (hx : Wh w s ad1 n1 c1 X) (hy : Lim w ad2 n2 c2 18446744073709551616 y) (hn2 : n2 ≤ 1000000) (hs : s = false) (hlt : X + X < y) :
    Calls Tryd.prog 43 #[.agg #[.bool false, .slice ad1 n1 c1], .slice ad2 n2 c2] w fun r w' => ∃ a b c d e, r = .returned (.tuple #[.agg #[.bool a, .slice b c d], .int .i64 e]) ∧ Hid (Tol w.heap.size w' a b c d e (2 * X - (y : Int))) ∧ Gr w w' := by
  have hle := hx.le
  have HL := hide hx.lim
  have HY := hide hy
  have EQX := hide hx.val
  have hzr := hx.n0
  have hneg := hx.neg_iff
  obtain ⟨x, hxa⟩ : ∃ x, X.natAbs = x := ⟨_, rfl⟩
  rw [hxa] at HL EQX
  subst hs
  have hxp : X = (x : Int) := by have := hneg; simp at this; omega
  have hlt2 : x + x < y := by omega
  clear hx hy hxa hzr hneg
  have HB := Bx2.mk' w false ad1 n1 c1
  have GW : Gr w ((w.alloc (.cells #[.bool false, .slice ad1 n1 c1] 24)).alloc (.cells #[.bool false, .slice none 0 0] 24)) := ((Gr.refl w).alloc _).alloc _
  have k0 := HB.a0
  have k1 := HB.a1
  obtain ⟨z0, z1, z2, z3⟩ := HB.o
  have tok0 : True := trivial
  go_enter Tryd.func43, Tryd.ntmps43
  have hdec : decide (x + x < y) = true := decide_eq_true hlt2
  go_wp2_with (first | (go_at_call 65; have _t := tok0; (with_reducible refine (sumV _ _ _ _ _ _ x x _ (HL.out.gr GW) (HL.out.gr GW) (by omega) (by omega)).mono ?_); rintro r w2 ⟨b3, c3, d3, rfl, hn3, L3, F3, g2⟩; clear tok0; have tok1 : True := trivial; replace HB := HB.gr g2; clear k0 k1 z0 z1 z2 z3; have k0 := HB.a0; have k1 := HB.a1; obtain ⟨z0, z1, z2, z3⟩ := HB.o; replace GW := GW.trans g2; have hq : w.heap.size + 1 < w2.heap.size := lt_of_get2 HB.ob; have HX := blk1 w2 (.cells #[.bool false, .slice none 0 0] 24); obtain ⟨x0, x1, x2, x3⟩ := Out2.of HX; have gx : Gr w2 (w2.alloc (.cells #[.bool false, .slice none 0 0] 24)) := (Gr.refl w2).alloc _; replace HB := HB.gr gx; clear k0 k1 z0 z1 z2 z3; have k0 := HB.a0; have k1 := HB.a1; obtain ⟨z0, z1, z2, z3⟩ := HB.o; replace GW := GW.trans gx; have L3' := L3.out.gr gx; have F3' := F3.out.gr gx; clear L3 F3) | (go_at_call 58; (with_reducible refine (belowV _ _ _ _ _ _ (x + x) y _ L3' (HY.out.gr GW) (by omega) (by omega)).mono ?_); rintro r w4 ⟨rfl, g4⟩; replace HB := HB.gr g4; clear k0 k1 z0 z1 z2 z3; have k0 := HB.a0; have k1 := HB.a1; obtain ⟨z0, z1, z2, z3⟩ := HB.o; replace GW := GW.trans g4; replace HX := keepO g4 HX; clear x0 x1 x2 x3; obtain ⟨x0, x1, x2, x3⟩ := Out2.of HX; replace L3' := L3'.gr g4; rw [hdec]) | (go_at_call 66; have _t := tok1; (with_reducible refine (differenceV _ _ _ _ _ _ y (x + x) _ (HY.out.gr GW) L3' (by omega) (by omega) (by omega)).mono ?_); rintro r w5 ⟨b5, c5, d5, rfl, hn5, L5, F5, g5⟩; clear tok1; have tok2 : True := trivial; have hws5 := GW.size; replace HB := HB.gr g5; clear k0 k1 z0 z1 z2 z3; have k0 := HB.a0; have k1 := HB.a1; obtain ⟨z0, z1, z2, z3⟩ := HB.o; replace GW := GW.trans g5; replace HX := keepO g5 HX; clear x0 x1 x2 x3; obtain ⟨x0, x1, x2, x3⟩ := Out2.of HX))
  have L5 := L5.out
  have F5 := F5.out.low hws5
  have hqw : w.heap.size ≤ w2.heap.size := by omega
  generalize w2.heap.size = q at *
  have hbx4 := put2_block HX (.bool true) (.slice b5 c5 d5)
  have HB4 := HB.far (i0 := .bool true) (i1 := .slice b5 c5 d5) hq
  have L4 := lim_set2 L5 F5 HX (.bool true) (.slice b5 c5 d5) (by decide)
  have F4 := fresh_set2 F5 HX (.bool true) (.slice b5 c5 d5) (by decide)
  have G4 : Gr w ((w5.setCell ⟨q, 0, none⟩ (.bool true)).setCell ⟨q, 1, none⟩ (.slice b5 c5 d5)) := (GW.setCell (p := ⟨q, 0, none⟩) hqw _).setCell (p := ⟨q, 1, none⟩) hqw _
  generalize ((w5.setCell ⟨q, 0, none⟩ (.bool true)).setCell ⟨q, 1, none⟩ (.slice b5 c5 d5)) = w6 at *
  clear HB GW HX L5 F5 k0 k1 z0 z1 z2 z3 x0 x1 x2 x3
  have HB := HB4
  have GW := G4
  clear HB4 G4
  have k0 := HB.a0
  have k1 := HB.a1
  obtain ⟨z0, z1, z2, z3⟩ := HB.o
  obtain ⟨x0, x1⟩ := bx2 hbx4
  have RR := hide (rightLim true b5 c5 d5 (y - (x + x)) w6 L4 (by simp; try omega))
  have EV : Hid (2 * X - (y : Int) = iv true (y - (x + x))) := by
    show _ = _
    rw [EQX.out]
    simp only [iv]
    try simp
    omega
  have AB : Hid ((2 * X - (y : Int)).natAbs = y - (x + x)) := by show _ = _; rw [EV.out, iv_abs]
  by_cases hT : y - (x + x) < TopN
  · rw [decide_eq_true hT] at RR
    have WH : Hid (Wh w6 true b5 c5 d5 (2 * X - (y : Int))) := by
      show Wh _ _ _ _ _ _
      rw [EV.out]
      refine wh_iv L4 ?_ (by simp; try omega)
      obtain ⟨zs, rz, dz⟩ := L4
      have := (topN_len dz).2 hT
      rw [rz.len] at this
      exact this
    have HT : Hid ((2 * X - (y : Int)).natAbs < TopN) := by show _ < _; rw [AB.out]; exact hT
    have F4' := hide F4
    clear L4 hT EV AB F4
    go_wp2_with (go_at_call 23; (with_reducible refine RR.out.mono ?_); rintro r w7 ⟨rfl, g7⟩; replace HB := HB.gr g7; clear k0 k1 z0 z1 z2 z3; have k0 := HB.a0; have k1 := HB.a1; obtain ⟨z0, z1, z2, z3⟩ := HB.o; replace GW := GW.trans g7; replace hbx4 := keepO g7 hbx4; clear x0 x1; obtain ⟨x0, x1⟩ := bx2 hbx4)
    have hG : Hid (Gr w ((w7.setCell ⟨w.heap.size + 1, 0, none⟩ (.bool true)).setCell ⟨w.heap.size + 1, 1, none⟩ (.slice b5 c5 d5))) := (GW.setCell (p := ⟨w.heap.size + 1, 0, none⟩) (by show _ ≤ w.heap.size + 1; omega) _).setCell (p := ⟨w.heap.size + 1, 1, none⟩) (by show _ ≤ w.heap.size + 1; omega) _
    have T8 : Hid (Tol w.heap.size ((w7.setCell ⟨w.heap.size + 1, 0, none⟩ (.bool true)).setCell ⟨w.heap.size + 1, 1, none⟩ (.slice b5 c5 d5)) true b5 c5 d5 0 (2 * X - (y : Int))) := (show Tol w.heap.size w7 true b5 c5 d5 0 (2 * X - (y : Int)) from Or.inl ⟨HT.out, rfl, WH.out.gr g7, F4'.out.gr g7⟩).set2 HB.ob (.bool true) (.slice b5 c5 d5) (by decide)
    refine bodyPost_ret (v := .tuple #[.agg #[.bool true, .slice b5 c5 d5], .int .i64 0]) ?_ rfl ⟨true, b5, c5, d5, 0, rfl, T8.out, hG.out⟩
    simp [results, Tryd.results43, go_sem, z0, z1]
  · rw [decide_eq_false hT] at RR
    have HT : Hid (TopN ≤ (2 * X - (y : Int)).natAbs) := by show _ ≤ _; rw [AB.out]; exact Nat.not_lt.1 hT
    clear L4 hT EV AB F4
    go_wp2_with (go_at_call 23; (with_reducible refine RR.out.mono ?_); rintro r w7 ⟨rfl, g7⟩; replace HB := HB.gr g7; clear k0 k1 z0 z1 z2 z3; have k0 := HB.a0; have k1 := HB.a1; obtain ⟨z0, z1, z2, z3⟩ := HB.o; replace GW := GW.trans g7; replace hbx4 := keepO g7 hbx4; clear x0 x1; obtain ⟨x0, x1⟩ := bx2 hbx4)
    have hG : Hid (Gr w ((w7.setCell ⟨w.heap.size + 1, 0, none⟩ (.bool false)).setCell ⟨w.heap.size + 1, 1, none⟩ (.slice none 0 0))) := (GW.setCell (p := ⟨w.heap.size + 1, 0, none⟩) (by show _ ≤ w.heap.size + 1; omega) _).setCell (p := ⟨w.heap.size + 1, 1, none⟩) (by show _ ≤ w.heap.size + 1; omega) _
    have T8 : Hid (Tol w.heap.size ((w7.setCell ⟨w.heap.size + 1, 0, none⟩ (.bool false)).setCell ⟨w.heap.size + 1, 1, none⟩ (.slice none 0 0)) false none 0 0 3 (2 * X - (y : Int))) := Or.inr ⟨HT.out, rfl, rfl, rfl, rfl, rfl⟩
    refine bodyPost_ret (v := .tuple #[.agg #[.bool false, .slice none 0 0], .int .i64 3]) ?_ rfl ⟨false, none, 0, 0, 3, rfl, T8.out, hG.out⟩
    simp [results, Tryd.results43, go_sem, z0, z1]
set_option maxRecDepth 8000 in
set_option maxHeartbeats 8000000 in
theorem twiceM (s : Bool) (ad1 ad2 : Option Addr) (n1 n2 c1 c2 y : Nat) (X : Int) (w : World) (hx : Wh w s ad1 n1 c1 X) (hy : Lim w ad2 n2 c2 18446744073709551616 y) (hn2 : n2 ≤ 1000000) (hs : s = false) (hlt : (y : Int) ≤ X + X) :
    Calls Tryd.prog 43 #[.agg #[.bool false, .slice ad1 n1 c1], .slice ad2 n2 c2] w fun r w' => ∃ a b c d e, r = .returned (.tuple #[.agg #[.bool a, .slice b c d], .int .i64 e]) ∧ Hid (Tol w.heap.size w' a b c d e (2 * X - (y : Int))) ∧ Gr w w' := by
  have hle := hx.le
  have HL := hide hx.lim
  have HY := hide hy
  have EQX := hide hx.val
  have hzr := hx.n0
  have hneg := hx.neg_iff
  obtain ⟨x, hxa⟩ : ∃ x, X.natAbs = x := ⟨_, rfl⟩
  rw [hxa] at HL EQX
  subst hs
  have hxp : X = (x : Int) := by have := hneg; simp at this; omega
  have hlt2 : y ≤ x + x := by omega
  clear hx hy hxa hzr hneg
  have HB := Bx2.mk' w false ad1 n1 c1
  have GW : Gr w ((w.alloc (.cells #[.bool false, .slice ad1 n1 c1] 24)).alloc (.cells #[.bool false, .slice none 0 0] 24)) := ((Gr.refl w).alloc _).alloc _
  have k0 := HB.a0
  have k1 := HB.a1
  obtain ⟨z0, z1, z2, z3⟩ := HB.o
  have tok0 : True := trivial
  go_enter Tryd.func43, Tryd.ntmps43
  have hdec : decide (x + x < y) = false := decide_eq_false (by omega)
  go_wp2_with (first | (go_at_call 65; have _t := tok0; (with_reducible refine (sumV _ _ _ _ _ _ x x _ (HL.out.gr GW) (HL.out.gr GW) (by omega) (by omega)).mono ?_); rintro r w2 ⟨b3, c3, d3, rfl, hn3, L3, F3, g2⟩; clear tok0; have tok1 : True := trivial; replace HB := HB.gr g2; clear k0 k1 z0 z1 z2 z3; have k0 := HB.a0; have k1 := HB.a1; obtain ⟨z0, z1, z2, z3⟩ := HB.o; replace GW := GW.trans g2; have hq : w.heap.size + 1 < w2.heap.size := lt_of_get2 HB.ob; have HX := blk1 w2 (.cells #[.bool false, .slice none 0 0] 24); obtain ⟨x0, x1, x2, x3⟩ := Out2.of HX; have gx : Gr w2 (w2.alloc (.cells #[.bool false, .slice none 0 0] 24)) := (Gr.refl w2).alloc _; replace HB := HB.gr gx; clear k0 k1 z0 z1 z2 z3; have k0 := HB.a0; have k1 := HB.a1; obtain ⟨z0, z1, z2, z3⟩ := HB.o; replace GW := GW.trans gx; have L3' := L3.out.gr gx; have F3' := F3.out.gr gx; clear L3 F3) | (go_at_call 58; (with_reducible refine (belowV _ _ _ _ _ _ (x + x) y _ L3' (HY.out.gr GW) (by omega) (by omega)).mono ?_); rintro r w4 ⟨rfl, g4⟩; replace HB := HB.gr g4; clear k0 k1 z0 z1 z2 z3; have k0 := HB.a0; have k1 := HB.a1; obtain ⟨z0, z1, z2, z3⟩ := HB.o; replace GW := GW.trans g4; replace HX := keepO g4 HX; clear x0 x1 x2 x3; obtain ⟨x0, x1, x2, x3⟩ := Out2.of HX; replace L3' := L3'.gr g4; rw [hdec]) | (go_at_call 66; have _t := tok1; (with_reducible refine (differenceV _ _ _ _ _ _ (x + x) y _ L3' (HY.out.gr GW) (by omega) (by omega) (by omega)).mono ?_); rintro r w5 ⟨b5, c5, d5, rfl, hn5, L5, F5, g5⟩; clear tok1; have tok2 : True := trivial; have hws5 := GW.size; replace HB := HB.gr g5; clear k0 k1 z0 z1 z2 z3; have k0 := HB.a0; have k1 := HB.a1; obtain ⟨z0, z1, z2, z3⟩ := HB.o; replace GW := GW.trans g5; replace HX := keepO g5 HX; clear x0 x1 x2 x3; obtain ⟨x0, x1, x2, x3⟩ := Out2.of HX))
  have L5 := L5.out
  have F5 := F5.out.low hws5
  have hqw : w.heap.size ≤ w2.heap.size := by omega
  generalize w2.heap.size = q at *
  have hbx4 := put2_block HX (.bool false) (.slice b5 c5 d5)
  have HB4 := HB.far (i0 := .bool false) (i1 := .slice b5 c5 d5) hq
  have L4 := lim_set2 L5 F5 HX (.bool false) (.slice b5 c5 d5) (by decide)
  have F4 := fresh_set2 F5 HX (.bool false) (.slice b5 c5 d5) (by decide)
  have G4 : Gr w ((w5.setCell ⟨q, 0, none⟩ (.bool false)).setCell ⟨q, 1, none⟩ (.slice b5 c5 d5)) := (GW.setCell (p := ⟨q, 0, none⟩) hqw _).setCell (p := ⟨q, 1, none⟩) hqw _
  generalize ((w5.setCell ⟨q, 0, none⟩ (.bool false)).setCell ⟨q, 1, none⟩ (.slice b5 c5 d5)) = w6 at *
  clear HB GW HX L5 F5 k0 k1 z0 z1 z2 z3 x0 x1 x2 x3
  have HB := HB4
  have GW := G4
  clear HB4 G4
  have k0 := HB.a0
  have k1 := HB.a1
  obtain ⟨z0, z1, z2, z3⟩ := HB.o
  obtain ⟨x0, x1⟩ := bx2 hbx4
  have RR := hide (rightLim false b5 c5 d5 (x + x - y) w6 L4 (by simp; try omega))
  have EV : Hid (2 * X - (y : Int) = iv false (x + x - y)) := by
    show _ = _
    rw [EQX.out]
    simp only [iv]
    try simp
    omega
  have AB : Hid ((2 * X - (y : Int)).natAbs = x + x - y) := by show _ = _; rw [EV.out, iv_abs]
  by_cases hT : x + x - y < TopN
  · rw [decide_eq_true hT] at RR
    have WH : Hid (Wh w6 false b5 c5 d5 (2 * X - (y : Int))) := by
      show Wh _ _ _ _ _ _
      rw [EV.out]
      refine wh_iv L4 ?_ (by simp; try omega)
      obtain ⟨zs, rz, dz⟩ := L4
      have := (topN_len dz).2 hT
      rw [rz.len] at this
      exact this
    have HT : Hid ((2 * X - (y : Int)).natAbs < TopN) := by show _ < _; rw [AB.out]; exact hT
    have F4' := hide F4
    clear L4 hT EV AB F4
    go_wp2_with (go_at_call 23; (with_reducible refine RR.out.mono ?_); rintro r w7 ⟨rfl, g7⟩; replace HB := HB.gr g7; clear k0 k1 z0 z1 z2 z3; have k0 := HB.a0; have k1 := HB.a1; obtain ⟨z0, z1, z2, z3⟩ := HB.o; replace GW := GW.trans g7; replace hbx4 := keepO g7 hbx4; clear x0 x1; obtain ⟨x0, x1⟩ := bx2 hbx4)
    have hG : Hid (Gr w ((w7.setCell ⟨w.heap.size + 1, 0, none⟩ (.bool false)).setCell ⟨w.heap.size + 1, 1, none⟩ (.slice b5 c5 d5))) := (GW.setCell (p := ⟨w.heap.size + 1, 0, none⟩) (by show _ ≤ w.heap.size + 1; omega) _).setCell (p := ⟨w.heap.size + 1, 1, none⟩) (by show _ ≤ w.heap.size + 1; omega) _
    have T8 : Hid (Tol w.heap.size ((w7.setCell ⟨w.heap.size + 1, 0, none⟩ (.bool false)).setCell ⟨w.heap.size + 1, 1, none⟩ (.slice b5 c5 d5)) false b5 c5 d5 0 (2 * X - (y : Int))) := (show Tol w.heap.size w7 false b5 c5 d5 0 (2 * X - (y : Int)) from Or.inl ⟨HT.out, rfl, WH.out.gr g7, F4'.out.gr g7⟩).set2 HB.ob (.bool false) (.slice b5 c5 d5) (by decide)
    refine bodyPost_ret (v := .tuple #[.agg #[.bool false, .slice b5 c5 d5], .int .i64 0]) ?_ rfl ⟨false, b5, c5, d5, 0, rfl, T8.out, hG.out⟩
    simp [results, Tryd.results43, go_sem, z0, z1]
  · rw [decide_eq_false hT] at RR
    have HT : Hid (TopN ≤ (2 * X - (y : Int)).natAbs) := by show _ ≤ _; rw [AB.out]; exact Nat.not_lt.1 hT
    clear L4 hT EV AB F4
    go_wp2_with (go_at_call 23; (with_reducible refine RR.out.mono ?_); rintro r w7 ⟨rfl, g7⟩; replace HB := HB.gr g7; clear k0 k1 z0 z1 z2 z3; have k0 := HB.a0; have k1 := HB.a1; obtain ⟨z0, z1, z2, z3⟩ := HB.o; replace GW := GW.trans g7; replace hbx4 := keepO g7 hbx4; clear x0 x1; obtain ⟨x0, x1⟩ := bx2 hbx4)
    have hG : Hid (Gr w ((w7.setCell ⟨w.heap.size + 1, 0, none⟩ (.bool false)).setCell ⟨w.heap.size + 1, 1, none⟩ (.slice none 0 0))) := (GW.setCell (p := ⟨w.heap.size + 1, 0, none⟩) (by show _ ≤ w.heap.size + 1; omega) _).setCell (p := ⟨w.heap.size + 1, 1, none⟩) (by show _ ≤ w.heap.size + 1; omega) _
    have T8 : Hid (Tol w.heap.size ((w7.setCell ⟨w.heap.size + 1, 0, none⟩ (.bool false)).setCell ⟨w.heap.size + 1, 1, none⟩ (.slice none 0 0)) false none 0 0 3 (2 * X - (y : Int))) := Or.inr ⟨HT.out, rfl, rfl, rfl, rfl, rfl⟩
    refine bodyPost_ret (v := .tuple #[.agg #[.bool false, .slice none 0 0], .int .i64 3]) ?_ rfl ⟨false, none, 0, 0, 3, rfl, T8.out, hG.out⟩
    simp [results, Tryd.results43, go_sem, z0, z1]
theorem twiceT (s : Bool) (ad1 ad2 : Option Addr) (n1 n2 c1 c2 y : Nat) (X : Int) (w : World) (hx : Wh w s ad1 n1 c1 X) (hy : Lim w ad2 n2 c2 18446744073709551616 y) (hn2 : n2 ≤ 1000000) :
    Calls Tryd.prog 43 #[.agg #[.bool s, .slice ad1 n1 c1], .slice ad2 n2 c2] w fun r w' => ∃ a b c d e, r = .returned (.tuple #[.agg #[.bool a, .slice b c d], .int .i64 e]) ∧ Hid (Tol w.heap.size w' a b c d e (2 * X - (y : Int))) ∧ Gr w w' := by
  cases hs : s with
  | true => exact twiceN true ad1 ad2 n1 n2 c1 c2 y X w (hs ▸ hx) hy hn2 rfl
  | false =>
    by_cases h : X + X < y
    · exact twiceL false ad1 ad2 n1 n2 c1 c2 y X w (hs ▸ hx) hy hn2 rfl h
    · exact twiceM false ad1 ad2 n1 n2 c1 c2 y X w (hs ▸ hx) hy hn2 rfl (by omega)
end Go.Proofs.YtnhekagmdniokaaDoor
