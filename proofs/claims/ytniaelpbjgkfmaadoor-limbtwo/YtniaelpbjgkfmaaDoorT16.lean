import Derived.Test.YtniaelpbjgkfmaaDoorT15
namespace Go.Proofs.YtniaelpbjgkfmaaDoor
open Go.RowKit
set_option linter.unusedVariables false

/-! rosetteref13: Told, both, Cmp, Add, Sub -/
set_option maxHeartbeats 3200000 in
theorem toldR (s : Bool) (ad : Option Addr) (n cap m : Nat) (w : World) (hl : Lim w ad n cap 18446744073709551616 m) (hb : bl m ≤ 68719476736) :
    Calls Tryd.prog 52 #[.agg #[.bool s, .slice ad n cap, .int .i64 0]] w fun r w' => ∃ a b c d e, r = .returned (.tuple #[.agg #[.bool a, .slice b c d], .int .i64 e]) ∧ Hid (TolR w' a b c d e (iv s m)) ∧ Gr w w' := by
  have GA : Gr w ((w.alloc (.cells #[.bool s, .slice ad n cap, .int .i64 0] 65)).alloc (.cells #[.bool false, .slice none 0 0] 24)) := ((Gr.refl w).alloc _).alloc _
  have HO : Hid _ := (blk2 w (.cells #[.bool s, .slice ad n cap, .int .i64 0] 65) (.cells #[.bool false, .slice none 0 0] 24)).2
  have hne1 : w.heap.size + 1 ≠ w.heap.size := by omega
  by_cases hf : (iv s m).natAbs < TopN
  · have TL : Hid (∀ w1, Gr w w1 → Calls Tryd.prog 74 #[.agg #[.bool s, .slice ad n cap, .int .i64 0]] w1 fun r w' => ∃ a b c d, r = .returned (.tuple #[.agg #[.bool a, .slice b c d], .bool true]) ∧ Hid (Wh w' a b c d (iv s m)) ∧ Gr w1 w') := fun w1 g => by
      refine (tellR s ad n cap m w1 (hl.gr g) hb).mono ?_
      rintro r w' ⟨a, b, c, d, ok, h1, h2, h3⟩
      rcases h2.out with ⟨_, rfl, h4⟩ | ⟨h4, _⟩
      · exact ⟨a, b, c, d, h1, h4, h3⟩
      · exact absurd hf (Nat.not_lt.2 h4)
    have HF : Hid ((iv s m).natAbs < TopN) := hf
    clear hl hf
    go_enter Tryd.func52, Tryd.ntmps52
    go_wp2_with (go_at_call 74; (with_reducible refine (TL.out _ GA).mono ?_); rintro r w1 ⟨a6, b6, c6, d6, rfl, V6, g6⟩; have hb6 := keepO g6 HO.out; obtain ⟨k0, k1, k2, k3⟩ := Out2.of hb6; have hlt := lt_of_get2 hb6)
    have V7 : Hid _ := V6.out.out2 hb6 (.bool a6) (.slice b6 c6 d6)
    have z0 := keepG ((Gr.refl _).alloc (.cells #[.bool a6, .slice b6 c6 d6] 24)) (at2 (v0 := .bool a6) (v1 := .slice b6 c6 d6) k0 k1).1
    have z1 := keepG ((Gr.refl _).alloc (.cells #[.bool a6, .slice b6 c6 d6] 24)) (at2 (v0 := .bool a6) (v1 := .slice b6 c6 d6) k0 k1).2
    refine bodyPost_ret (v := .tuple #[.agg #[.bool a6, .slice b6 c6 d6], .int .i64 0]) ?_ rfl ⟨_, _, _, _, _, rfl, Or.inl ⟨HF.out, rfl, V7.out.gr ((Gr.refl _).alloc _)⟩, (((GA.trans g6).setCell (p := ⟨w.heap.size + 1, 0, none⟩) (by show _ ≤ w.heap.size + 1; omega) _).setCell (p := ⟨w.heap.size + 1, 1, none⟩) (by show _ ≤ w.heap.size + 1; omega) _).alloc _⟩
    simp [results, Tryd.results52, go_sem, z0, z1]
  · have TL : Hid (∀ w1, Gr w w1 → Calls Tryd.prog 74 #[.agg #[.bool s, .slice ad n cap, .int .i64 0]] w1 fun r w' => r = .returned (.tuple #[.agg #[.bool false, .slice none 0 0], .bool false]) ∧ Gr w1 w') := fun w1 g => by
      refine (tellR s ad n cap m w1 (hl.gr g) hb).mono ?_
      rintro r w' ⟨a, b, c, d, ok, h1, h2, h3⟩
      rcases h2.out with ⟨h4, _⟩ | ⟨_, rfl, rfl, rfl, rfl, rfl⟩
      · exact absurd h4 hf
      · exact ⟨h1, h3⟩
    have HF : Hid (TopN ≤ (iv s m).natAbs) := Nat.not_lt.1 hf
    clear hl hf
    go_enter Tryd.func52, Tryd.ntmps52
    go_wp2_with (go_at_call 74; (with_reducible refine (TL.out _ GA).mono ?_); rintro r w1 ⟨rfl, g6⟩; have hb6 := keepO g6 HO.out; obtain ⟨k0, k1, k2, k3⟩ := Out2.of hb6; have hlt := lt_of_get2 hb6)
    have z0 := keepG ((Gr.refl _).alloc (.cells #[.bool false, .slice none 0 0] 24)) (at2 (v0 := .bool false) (v1 := .slice none 0 0) k0 k1).1
    have z1 := keepG ((Gr.refl _).alloc (.cells #[.bool false, .slice none 0 0] 24)) (at2 (v0 := .bool false) (v1 := .slice none 0 0) k0 k1).2
    refine bodyPost_ret (v := .tuple #[.agg #[.bool false, .slice none 0 0], .int .i64 3]) ?_ rfl ⟨_, _, _, _, _, rfl, Or.inr ⟨HF.out, rfl, rfl, rfl, rfl, rfl⟩, (((GA.trans g6).setCell (p := ⟨w.heap.size + 1, 0, none⟩) (by show _ ≤ w.heap.size + 1; omega) _).setCell (p := ⟨w.heap.size + 1, 1, none⟩) (by show _ ≤ w.heap.size + 1; omega) _).alloc _⟩
    simp [results, Tryd.results52, go_sem, z0, z1]
theorem sv0 (s : Bool) (x : Nat) : sv 0 s x 0 = iv s x := by unfold sv iv; simp
theorem plusW (s t : Bool) (ad1 ad2 : Option Addr) (n1 n2 c1 c2 x y : Nat) (w : World) (hx : Lim w ad1 n1 c1 18446744073709551616 x) (hy : Lim w ad2 n2 c2 18446744073709551616 y) (bx : bl x ≤ 262144) (by' : bl y ≤ 262144) :
    Calls Tryd.prog 59 #[.agg #[.bool s, .slice ad1 n1 c1, .int .i64 0], .agg #[.bool t, .slice ad2 n2 c2, .int .i64 0]] w fun r w' => ∃ neg m b c d, r = .returned (.agg #[.bool neg, .slice b c d, .int .i64 0]) ∧ Hid (iv neg m = iv s x + iv t y) ∧ bl m ≤ 68719476736 ∧ Hid (Lim w' b c d 18446744073709551616 m) ∧ Gr w w' := by
  obtain ⟨neg, m, g, h1, h2, h3, h4⟩ := plus40 s t ad1 ad2 n1 n2 c1 c2 x y 0 0 w hx hy (by omega) (by omega) (by omega) (by omega) (by omega) (by omega)
  have hg : g = 0 := by rcases h2 with h | h <;> exact h
  subst hg
  have e := (h1 0 (by omega) (by omega)).2
  rw [sv0, sv0, sv0] at e
  refine (h4 w (Gr.refl w)).mono ?_
  rintro r w' ⟨b, c, d, k1, k2, k3⟩
  exact ⟨neg, m, b, c, d, k1, e, by omega, k2, k3⟩
theorem lessW (s t : Bool) (ad1 ad2 : Option Addr) (n1 n2 c1 c2 x y : Nat) (w : World) (hx : Lim w ad1 n1 c1 18446744073709551616 x) (hy : Lim w ad2 n2 c2 18446744073709551616 y) (bx : bl x ≤ 262144) (by' : bl y ≤ 262144) :
    Calls Tryd.prog 60 #[.agg #[.bool s, .slice ad1 n1 c1, .int .i64 0], .agg #[.bool t, .slice ad2 n2 c2, .int .i64 0]] w fun r w' => ∃ neg m b c d, r = .returned (.agg #[.bool neg, .slice b c d, .int .i64 0]) ∧ Hid (iv neg m = iv s x - iv t y) ∧ bl m ≤ 68719476736 ∧ Hid (Lim w' b c d 18446744073709551616 m) ∧ Gr w w' := by
  obtain ⟨neg, m, g, h1, h2, h3, h4⟩ := less49 s t ad1 ad2 n1 n2 c1 c2 x y 0 0 w hx hy (by omega) (by omega) (by omega) (by omega) (by omega) (by omega)
  have hg : g = 0 := by rcases h2 with h | h <;> exact h
  subst hg
  have e := (h1 0 (by omega) (by omega)).2
  rw [sv0, sv0, sv0] at e
  refine (h4 w (Gr.refl w)).mono ?_
  rintro r w' ⟨b, c, d, k1, k2, k3⟩
  exact ⟨neg, m, b, c, d, k1, e, by omega, k2, k3⟩
theorem compareW (s t : Bool) (ad1 ad2 : Option Addr) (n1 n2 c1 c2 x y : Nat) (w : World) (hx : Lim w ad1 n1 c1 18446744073709551616 x) (hy : Lim w ad2 n2 c2 18446744073709551616 y) (bx : bl x ≤ 262144) (by' : bl y ≤ 262144) :
    Calls Tryd.prog 49 #[.agg #[.bool s, .slice ad1 n1 c1, .int .i64 0], .agg #[.bool t, .slice ad2 n2 c2, .int .i64 0]] w fun r w' => r = .returned (.int .i64 (sg (iv s x - iv t y))) ∧ Gr w w' := by
  have := compare45 s t ad1 ad2 n1 n2 c1 c2 x y 0 0 w hx hy (by omega) (by omega) (by omega) (by omega) (by omega) (by omega) 0 (by omega) (by omega)
  rw [sv0, sv0] at this
  exact this
theorem Wh.bl {w : World} {s : Bool} {ad : Option Addr} {n cap : Nat} {X : Int} (h : Wh w s ad n cap X) : bl X.natAbs ≤ 262144 := topN_bl.2 h.lt
set_option maxHeartbeats 800000 in
theorem bothR (s t : Bool) (ad1 ad2 : Option Addr) (n1 n2 c1 c2 : Nat) (xs ys : List Nat) (w : World) (rx : Row w ad1 n1 c1 xs) (ry : Row w ad2 n2 c2 ys) :
    Calls Tryd.prog 58 #[.agg #[.bool s, .slice ad1 n1 c1], .agg #[.bool t, .slice ad2 n2 c2]] w fun r w' => r = .returned (.bool (rightN s xs && rightN t ys)) ∧ Gr w w' := by
  have RA : Hid (∀ w1, Gr w w1 → Calls Tryd.prog 28 #[.agg #[.bool s, .slice ad1 n1 c1]] w1 fun r w' => r = .returned (.bool (rightN s xs)) ∧ Gr w1 w') := fun w1 g => rightR s ad1 n1 c1 xs w1 (rx.gr g)
  have RB : Hid (∀ w1, Gr w w1 → Calls Tryd.prog 28 #[.agg #[.bool t, .slice ad2 n2 c2]] w1 fun r w' => r = .returned (.bool (rightN t ys)) ∧ Gr w1 w') := fun w1 g => rightR t ad2 n2 c2 ys w1 (ry.gr g)
  have GA : Gr w ((w.alloc (.cells #[.bool s, .slice ad1 n1 c1] 24)).alloc (.cells #[.bool t, .slice ad2 n2 c2] 24)) := ((Gr.refl w).alloc _).alloc _
  have B2 := blk2 w (.cells #[.bool s, .slice ad1 n1 c1] 24) (.cells #[.bool t, .slice ad2 n2 c2] 24)
  have S0 : Hid ((((w.alloc (.cells #[.bool s, .slice ad1 n1 c1] 24)).alloc (.cells #[.bool t, .slice ad2 n2 c2] 24)).cell? ⟨w.heap.size, 0, none⟩ = some (.bool s) ∧ ((w.alloc (.cells #[.bool s, .slice ad1 n1 c1] 24)).alloc (.cells #[.bool t, .slice ad2 n2 c2] 24)).cell? ⟨w.heap.size, 1, none⟩ = some (.slice ad1 n1 c1) ∧ ((w.alloc (.cells #[.bool s, .slice ad1 n1 c1] 24)).alloc (.cells #[.bool t, .slice ad2 n2 c2] 24)).cell? ⟨w.heap.size + 1, 0, none⟩ = some (.bool t) ∧ ((w.alloc (.cells #[.bool s, .slice ad1 n1 c1] 24)).alloc (.cells #[.bool t, .slice ad2 n2 c2] 24)).cell? ⟨w.heap.size + 1, 1, none⟩ = some (.slice ad2 n2 c2)) ∧ Gr w ((w.alloc (.cells #[.bool s, .slice ad1 n1 c1] 24)).alloc (.cells #[.bool t, .slice ad2 n2 c2] 24))) := ⟨⟨(bx2 B2.1).1, (bx2 B2.1).2, (bx2 B2.2).1, (bx2 B2.2).2⟩, GA⟩
  clear rx ry B2
  generalize rightN s xs = p at *
  generalize rightN t ys = q at *
  have tok0 : True := trivial
  cases p
  · go_enter Tryd.func58, Tryd.ntmps58
    go_wp2_with (first | (go_at_call 28; (with_reducible refine (RA.out _ GA).mono ?_); rintro r w1 ⟨rfl, g1⟩))
    go_ret
    exact ⟨rfl, GA.trans g1⟩
  · go_enter Tryd.func58, Tryd.ntmps58
    go_wp2_with (first | (go_at_call 28; have _t := tok0; (with_reducible refine (RA.out _ GA).mono ?_); rintro r w1 ⟨rfl, g1⟩; clear tok0; have S1 := keepC4 g1 S0.out; have x0 := S1.1.1; have x1 := S1.1.2.1; have y0 := S1.1.2.2.1; have y1 := S1.1.2.2.2) | (go_at_call 28; (with_reducible refine (RB.out _ (GA.trans g1)).mono ?_); rintro r w2 ⟨rfl, g2⟩))
    go_ret
    exact ⟨by simp, (GA.trans g1).trans g2⟩

set_option maxHeartbeats 3200000 in
theorem refAdd (s t : Bool) (ad1 ad2 : Option Addr) (n1 n2 c1 c2 : Nat) (X Y : Int) (w : World) (hx : Wh w s ad1 n1 c1 X) (hy : Wh w t ad2 n2 c2 Y) :
    Calls Tryd.prog 32 #[.agg #[.bool s, .slice ad1 n1 c1], .agg #[.bool t, .slice ad2 n2 c2]] w fun r w' => ∃ a b c d e, r = .returned (.tuple #[.agg #[.bool a, .slice b c d], .int .i64 e]) ∧ Hid (TolR w' a b c d e (X + Y)) ∧ Gr w w' := by
  have BO : Hid (∀ w1, Gr w w1 → Calls Tryd.prog 58 #[.agg #[.bool s, .slice ad1 n1 c1], .agg #[.bool t, .slice ad2 n2 c2]] w1 fun r w' => r = .returned (.bool true) ∧ Gr w1 w') := fun w1 g => by
    obtain ⟨xs, rx, dx, hR⟩ := hx.right
    obtain ⟨ys, ry, dy, hR2⟩ := hy.right
    have := bothR s t ad1 ad2 n1 n2 c1 c2 xs ys w1 (rx.gr g) (ry.gr g)
    rw [rightN_t hR, rightN_t hR2] at this
    exact this
  have IA : Hid (∀ w1, Gr w w1 → Calls Tryd.prog 48 #[.agg #[.bool s, .slice ad1 n1 c1]] w1 fun r w' => ∃ b c d, r = .returned (.agg #[.bool s, .slice b c d, .int .i64 0]) ∧ Hid (Lim w' b c d 18446744073709551616 X.natAbs) ∧ Gr w1 w') := fun w1 g => intR s ad1 n1 c1 X w1 (hx.gr g)
  have IB : Hid (∀ w1, Gr w w1 → Calls Tryd.prog 48 #[.agg #[.bool t, .slice ad2 n2 c2]] w1 fun r w' => ∃ b c d, r = .returned (.agg #[.bool t, .slice b c d, .int .i64 0]) ∧ Hid (Lim w' b c d 18446744073709551616 Y.natAbs) ∧ Gr w1 w') := fun w1 g => intR t ad2 n2 c2 Y w1 (hy.gr g)
  have PX : Hid (bl X.natAbs ≤ 262144) := hx.bl
  have PY : Hid (bl Y.natAbs ≤ 262144) := hy.bl
  have EX : Hid (iv s X.natAbs = X) := iv_val hx
  have EY : Hid (iv t Y.natAbs = Y) := iv_val hy
  clear hx hy
  have GA : Gr w (((w.alloc (.cells #[.bool s, .slice ad1 n1 c1] 24)).alloc (.cells #[.bool t, .slice ad2 n2 c2] 24)).alloc (.cells #[.bool false, .slice none 0 0] 24)) := (((Gr.refl w).alloc _).alloc _).alloc _
  have S0 : Hid (((((w.alloc (.cells #[.bool s, .slice ad1 n1 c1] 24)).alloc (.cells #[.bool t, .slice ad2 n2 c2] 24)).alloc (.cells #[.bool false, .slice none 0 0] 24)).cell? ⟨w.heap.size, 0, none⟩ = some (.bool s) ∧ (((w.alloc (.cells #[.bool s, .slice ad1 n1 c1] 24)).alloc (.cells #[.bool t, .slice ad2 n2 c2] 24)).alloc (.cells #[.bool false, .slice none 0 0] 24)).cell? ⟨w.heap.size, 1, none⟩ = some (.slice ad1 n1 c1) ∧ (((w.alloc (.cells #[.bool s, .slice ad1 n1 c1] 24)).alloc (.cells #[.bool t, .slice ad2 n2 c2] 24)).alloc (.cells #[.bool false, .slice none 0 0] 24)).cell? ⟨w.heap.size + 1, 0, none⟩ = some (.bool t) ∧ (((w.alloc (.cells #[.bool s, .slice ad1 n1 c1] 24)).alloc (.cells #[.bool t, .slice ad2 n2 c2] 24)).alloc (.cells #[.bool false, .slice none 0 0] 24)).cell? ⟨w.heap.size + 1, 1, none⟩ = some (.slice ad2 n2 c2)) ∧ ((((w.alloc (.cells #[.bool s, .slice ad1 n1 c1] 24)).alloc (.cells #[.bool t, .slice ad2 n2 c2] 24)).alloc (.cells #[.bool false, .slice none 0 0] 24)).cell? ⟨w.heap.size + 1 + 1, 0, none⟩ = some (cellV (((w.alloc (.cells #[.bool s, .slice ad1 n1 c1] 24)).alloc (.cells #[.bool t, .slice ad2 n2 c2] 24)).alloc (.cells #[.bool false, .slice none 0 0] 24)) (w.heap.size + 1 + 1) 0) ∧ (((w.alloc (.cells #[.bool s, .slice ad1 n1 c1] 24)).alloc (.cells #[.bool t, .slice ad2 n2 c2] 24)).alloc (.cells #[.bool false, .slice none 0 0] 24)).cell? ⟨w.heap.size + 1 + 1, 1, none⟩ = some (cellV (((w.alloc (.cells #[.bool s, .slice ad1 n1 c1] 24)).alloc (.cells #[.bool t, .slice ad2 n2 c2] 24)).alloc (.cells #[.bool false, .slice none 0 0] 24)) (w.heap.size + 1 + 1) 1) ∧ (((w.alloc (.cells #[.bool s, .slice ad1 n1 c1] 24)).alloc (.cells #[.bool t, .slice ad2 n2 c2] 24)).alloc (.cells #[.bool false, .slice none 0 0] 24)).frozen? ⟨w.heap.size + 1 + 1, 0, none⟩ = false ∧ (((w.alloc (.cells #[.bool s, .slice ad1 n1 c1] 24)).alloc (.cells #[.bool t, .slice ad2 n2 c2] 24)).alloc (.cells #[.bool false, .slice none 0 0] 24)).frozen? ⟨w.heap.size + 1 + 1, 1, none⟩ = false) ∧ Gr w (((w.alloc (.cells #[.bool s, .slice ad1 n1 c1] 24)).alloc (.cells #[.bool t, .slice ad2 n2 c2] 24)).alloc (.cells #[.bool false, .slice none 0 0] 24))) := boxes2 w s t ad1 ad2 n1 n2 c1 c2
  have HO : Hid ((((w.alloc (.cells #[.bool s, .slice ad1 n1 c1] 24)).alloc (.cells #[.bool t, .slice ad2 n2 c2] 24)).alloc (.cells #[.bool false, .slice none 0 0] 24)).heap[w.heap.size + 1 + 1]? = some (.cells #[.bool false, .slice none 0 0] 24)) := (blk3 w (.cells #[.bool s, .slice ad1 n1 c1] 24) (.cells #[.bool t, .slice ad2 n2 c2] 24) (.cells #[.bool false, .slice none 0 0] 24)).2.2
  go_enter Tryd.func32, Tryd.ntmps32
  go_wp2_with (go_at_call 58; (with_reducible refine (BO.out _ GA).mono ?_); rintro r w1 ⟨rfl, g1⟩)
  have S1 := keepL4 ((Gr.refl w1).drew) (keepL4 g1 S0.out)
  have HO1 : Hid _ := keepO g1 HO.out
  have G1 := GA.trans g1
  clear S0 HO g1 GA
  go_region_held3 (fun w' => (w'.cell? ⟨w.heap.size, 0, none⟩ = some (.bool s) ∧ w'.cell? ⟨w.heap.size, 1, none⟩ = some (.slice ad1 n1 c1) ∧ w'.cell? ⟨w.heap.size + 1, 0, none⟩ = some (.bool t) ∧ w'.cell? ⟨w.heap.size + 1, 1, none⟩ = some (.slice ad2 n2 c2)) ∧ (w'.cell? ⟨w.heap.size + 1 + 1, 0, none⟩ = some (cellV w' (w.heap.size + 1 + 1) 0) ∧ w'.cell? ⟨w.heap.size + 1 + 1, 1, none⟩ = some (cellV w' (w.heap.size + 1 + 1) 1) ∧ w'.frozen? ⟨w.heap.size + 1 + 1, 0, none⟩ = false ∧ w'.frozen? ⟨w.heap.size + 1 + 1, 1, none⟩ = false) ∧ Gr w w') (first | (with_reducible assumption) | (apply keepL4; (with_reducible assumption); (with_reducible assumption)) | (refine keepS4 (by omega) (by omega) (by omega) (by omega) (by omega) ?_; (with_reducible assumption))) (first | (go_at_call 48; (with_reducible refine (IA.out _ ?gg).mono ?_); (case gg => exact And.right (And.right ‹_ ∧ _ ∧ Gr w _›)); rintro r w2 ⟨b2, k2, d2, rfl, L2, g2⟩) | (go_at_call 48; (with_reducible refine (IB.out _ ?gg).mono ?_); (case gg => exact And.right (And.right ‹_ ∧ _ ∧ Gr w _›)); rintro r w3 ⟨b3, k3, d3, rfl, L3, g3⟩) | (go_at_call 59; (with_reducible refine (plusW _ _ _ _ _ _ _ _ _ _ _ (L2.out.gr g3) L3.out PX.out PY.out).mono ?_); rintro r w4 ⟨ng, m4, b4, k4, d4, rfl, E4, B4, L4, g4⟩) | (go_at_call 52; (with_reducible refine (toldR _ _ _ _ _ _ L4.out B4).mono ?_); rintro r w5 ⟨a6, b6, c6, d6, e6, rfl, T6, g5⟩))
  have hb6 : w5.heap[w.heap.size + 1 + 1]? = some (.cells #[.bool false, .slice none 0 0] 24) := keepO g5 (keepO g4 (keepO g3 (keepO g2 HO1.out)))
  obtain ⟨q0, q1, q2, q3⟩ := Out2.of hb6
  have GF : Gr w w5 := ((((G1.trans ((Gr.refl w1).drew)).trans g2).trans g3).trans g4).trans g5
  have T7 := T6.out.out2 hb6 (.bool a6) (.slice b6 c6 d6)
  rw [E4.out, EX.out, EY.out] at T7
  have T8 : Hid _ := T7
  clear S1 hb6 T6 T7 g5 g4 g3 g2 HO1 L2 L3 L4
  go_wp2
  refine bodyPost_ret (v := .tuple #[.agg #[.bool a6, .slice b6 c6 d6], .int .i64 e6]) ?_ rfl ⟨a6, b6, c6, d6, e6, rfl, T8.out, (GF.setCell (p := ⟨w.heap.size + 1 + 1, 0, none⟩) (by show _ ≤ w.heap.size + 1 + 1; omega) _).setCell (p := ⟨w.heap.size + 1 + 1, 1, none⟩) (by show _ ≤ w.heap.size + 1 + 1; omega) _⟩
  simp [results, Tryd.results32, go_sem, q0, q1]

set_option maxHeartbeats 3200000 in
theorem refSub (s t : Bool) (ad1 ad2 : Option Addr) (n1 n2 c1 c2 : Nat) (X Y : Int) (w : World) (hx : Wh w s ad1 n1 c1 X) (hy : Wh w t ad2 n2 c2 Y) :
    Calls Tryd.prog 33 #[.agg #[.bool s, .slice ad1 n1 c1], .agg #[.bool t, .slice ad2 n2 c2]] w fun r w' => ∃ a b c d e, r = .returned (.tuple #[.agg #[.bool a, .slice b c d], .int .i64 e]) ∧ Hid (TolR w' a b c d e (X - Y)) ∧ Gr w w' := by
  have BO : Hid (∀ w1, Gr w w1 → Calls Tryd.prog 58 #[.agg #[.bool s, .slice ad1 n1 c1], .agg #[.bool t, .slice ad2 n2 c2]] w1 fun r w' => r = .returned (.bool true) ∧ Gr w1 w') := fun w1 g => by
    obtain ⟨xs, rx, dx, hR⟩ := hx.right
    obtain ⟨ys, ry, dy, hR2⟩ := hy.right
    have := bothR s t ad1 ad2 n1 n2 c1 c2 xs ys w1 (rx.gr g) (ry.gr g)
    rw [rightN_t hR, rightN_t hR2] at this
    exact this
  have IA : Hid (∀ w1, Gr w w1 → Calls Tryd.prog 48 #[.agg #[.bool s, .slice ad1 n1 c1]] w1 fun r w' => ∃ b c d, r = .returned (.agg #[.bool s, .slice b c d, .int .i64 0]) ∧ Hid (Lim w' b c d 18446744073709551616 X.natAbs) ∧ Gr w1 w') := fun w1 g => intR s ad1 n1 c1 X w1 (hx.gr g)
  have IB : Hid (∀ w1, Gr w w1 → Calls Tryd.prog 48 #[.agg #[.bool t, .slice ad2 n2 c2]] w1 fun r w' => ∃ b c d, r = .returned (.agg #[.bool t, .slice b c d, .int .i64 0]) ∧ Hid (Lim w' b c d 18446744073709551616 Y.natAbs) ∧ Gr w1 w') := fun w1 g => intR t ad2 n2 c2 Y w1 (hy.gr g)
  have PX : Hid (bl X.natAbs ≤ 262144) := hx.bl
  have PY : Hid (bl Y.natAbs ≤ 262144) := hy.bl
  have EX : Hid (iv s X.natAbs = X) := iv_val hx
  have EY : Hid (iv t Y.natAbs = Y) := iv_val hy
  clear hx hy
  have GA : Gr w (((w.alloc (.cells #[.bool s, .slice ad1 n1 c1] 24)).alloc (.cells #[.bool t, .slice ad2 n2 c2] 24)).alloc (.cells #[.bool false, .slice none 0 0] 24)) := (((Gr.refl w).alloc _).alloc _).alloc _
  have S0 : Hid (((((w.alloc (.cells #[.bool s, .slice ad1 n1 c1] 24)).alloc (.cells #[.bool t, .slice ad2 n2 c2] 24)).alloc (.cells #[.bool false, .slice none 0 0] 24)).cell? ⟨w.heap.size, 0, none⟩ = some (.bool s) ∧ (((w.alloc (.cells #[.bool s, .slice ad1 n1 c1] 24)).alloc (.cells #[.bool t, .slice ad2 n2 c2] 24)).alloc (.cells #[.bool false, .slice none 0 0] 24)).cell? ⟨w.heap.size, 1, none⟩ = some (.slice ad1 n1 c1) ∧ (((w.alloc (.cells #[.bool s, .slice ad1 n1 c1] 24)).alloc (.cells #[.bool t, .slice ad2 n2 c2] 24)).alloc (.cells #[.bool false, .slice none 0 0] 24)).cell? ⟨w.heap.size + 1, 0, none⟩ = some (.bool t) ∧ (((w.alloc (.cells #[.bool s, .slice ad1 n1 c1] 24)).alloc (.cells #[.bool t, .slice ad2 n2 c2] 24)).alloc (.cells #[.bool false, .slice none 0 0] 24)).cell? ⟨w.heap.size + 1, 1, none⟩ = some (.slice ad2 n2 c2)) ∧ ((((w.alloc (.cells #[.bool s, .slice ad1 n1 c1] 24)).alloc (.cells #[.bool t, .slice ad2 n2 c2] 24)).alloc (.cells #[.bool false, .slice none 0 0] 24)).cell? ⟨w.heap.size + 1 + 1, 0, none⟩ = some (cellV (((w.alloc (.cells #[.bool s, .slice ad1 n1 c1] 24)).alloc (.cells #[.bool t, .slice ad2 n2 c2] 24)).alloc (.cells #[.bool false, .slice none 0 0] 24)) (w.heap.size + 1 + 1) 0) ∧ (((w.alloc (.cells #[.bool s, .slice ad1 n1 c1] 24)).alloc (.cells #[.bool t, .slice ad2 n2 c2] 24)).alloc (.cells #[.bool false, .slice none 0 0] 24)).cell? ⟨w.heap.size + 1 + 1, 1, none⟩ = some (cellV (((w.alloc (.cells #[.bool s, .slice ad1 n1 c1] 24)).alloc (.cells #[.bool t, .slice ad2 n2 c2] 24)).alloc (.cells #[.bool false, .slice none 0 0] 24)) (w.heap.size + 1 + 1) 1) ∧ (((w.alloc (.cells #[.bool s, .slice ad1 n1 c1] 24)).alloc (.cells #[.bool t, .slice ad2 n2 c2] 24)).alloc (.cells #[.bool false, .slice none 0 0] 24)).frozen? ⟨w.heap.size + 1 + 1, 0, none⟩ = false ∧ (((w.alloc (.cells #[.bool s, .slice ad1 n1 c1] 24)).alloc (.cells #[.bool t, .slice ad2 n2 c2] 24)).alloc (.cells #[.bool false, .slice none 0 0] 24)).frozen? ⟨w.heap.size + 1 + 1, 1, none⟩ = false) ∧ Gr w (((w.alloc (.cells #[.bool s, .slice ad1 n1 c1] 24)).alloc (.cells #[.bool t, .slice ad2 n2 c2] 24)).alloc (.cells #[.bool false, .slice none 0 0] 24))) := boxes2 w s t ad1 ad2 n1 n2 c1 c2
  have HO : Hid ((((w.alloc (.cells #[.bool s, .slice ad1 n1 c1] 24)).alloc (.cells #[.bool t, .slice ad2 n2 c2] 24)).alloc (.cells #[.bool false, .slice none 0 0] 24)).heap[w.heap.size + 1 + 1]? = some (.cells #[.bool false, .slice none 0 0] 24)) := (blk3 w (.cells #[.bool s, .slice ad1 n1 c1] 24) (.cells #[.bool t, .slice ad2 n2 c2] 24) (.cells #[.bool false, .slice none 0 0] 24)).2.2
  go_enter Tryd.func33, Tryd.ntmps33
  go_wp2_with (go_at_call 58; (with_reducible refine (BO.out _ GA).mono ?_); rintro r w1 ⟨rfl, g1⟩)
  have S1 := keepL4 ((Gr.refl w1).drew) (keepL4 g1 S0.out)
  have HO1 : Hid _ := keepO g1 HO.out
  have G1 := GA.trans g1
  clear S0 HO g1 GA
  go_region_held3 (fun w' => (w'.cell? ⟨w.heap.size, 0, none⟩ = some (.bool s) ∧ w'.cell? ⟨w.heap.size, 1, none⟩ = some (.slice ad1 n1 c1) ∧ w'.cell? ⟨w.heap.size + 1, 0, none⟩ = some (.bool t) ∧ w'.cell? ⟨w.heap.size + 1, 1, none⟩ = some (.slice ad2 n2 c2)) ∧ (w'.cell? ⟨w.heap.size + 1 + 1, 0, none⟩ = some (cellV w' (w.heap.size + 1 + 1) 0) ∧ w'.cell? ⟨w.heap.size + 1 + 1, 1, none⟩ = some (cellV w' (w.heap.size + 1 + 1) 1) ∧ w'.frozen? ⟨w.heap.size + 1 + 1, 0, none⟩ = false ∧ w'.frozen? ⟨w.heap.size + 1 + 1, 1, none⟩ = false) ∧ Gr w w') (first | (with_reducible assumption) | (apply keepL4; (with_reducible assumption); (with_reducible assumption)) | (refine keepS4 (by omega) (by omega) (by omega) (by omega) (by omega) ?_; (with_reducible assumption))) (first | (go_at_call 48; (with_reducible refine (IA.out _ ?gg).mono ?_); (case gg => exact And.right (And.right ‹_ ∧ _ ∧ Gr w _›)); rintro r w2 ⟨b2, k2, d2, rfl, L2, g2⟩) | (go_at_call 48; (with_reducible refine (IB.out _ ?gg).mono ?_); (case gg => exact And.right (And.right ‹_ ∧ _ ∧ Gr w _›)); rintro r w3 ⟨b3, k3, d3, rfl, L3, g3⟩) | (go_at_call 60; (with_reducible refine (lessW _ _ _ _ _ _ _ _ _ _ _ (L2.out.gr g3) L3.out PX.out PY.out).mono ?_); rintro r w4 ⟨ng, m4, b4, k4, d4, rfl, E4, B4, L4, g4⟩) | (go_at_call 52; (with_reducible refine (toldR _ _ _ _ _ _ L4.out B4).mono ?_); rintro r w5 ⟨a6, b6, c6, d6, e6, rfl, T6, g5⟩))
  have hb6 : w5.heap[w.heap.size + 1 + 1]? = some (.cells #[.bool false, .slice none 0 0] 24) := keepO g5 (keepO g4 (keepO g3 (keepO g2 HO1.out)))
  obtain ⟨q0, q1, q2, q3⟩ := Out2.of hb6
  have GF : Gr w w5 := ((((G1.trans ((Gr.refl w1).drew)).trans g2).trans g3).trans g4).trans g5
  have T7 := T6.out.out2 hb6 (.bool a6) (.slice b6 c6 d6)
  rw [E4.out, EX.out, EY.out] at T7
  have T8 : Hid _ := T7
  clear S1 hb6 T6 T7 g5 g4 g3 g2 HO1 L2 L3 L4
  go_wp2
  refine bodyPost_ret (v := .tuple #[.agg #[.bool a6, .slice b6 c6 d6], .int .i64 e6]) ?_ rfl ⟨a6, b6, c6, d6, e6, rfl, T8.out, (GF.setCell (p := ⟨w.heap.size + 1 + 1, 0, none⟩) (by show _ ≤ w.heap.size + 1 + 1; omega) _).setCell (p := ⟨w.heap.size + 1 + 1, 1, none⟩) (by show _ ≤ w.heap.size + 1 + 1; omega) _⟩
  simp [results, Tryd.results33, go_sem, q0, q1]
end Go.Proofs.YtniaelpbjgkfmaaDoor
namespace Go.Proofs.YtniaelpbjgkfmaaDoor
open Go.RowKit
set_option linter.unusedVariables false

/-! rosetteref13: Cmp; Cmp, Add, Sub of what is not right -/
set_option maxHeartbeats 3200000 in
theorem refCmp (s t : Bool) (ad1 ad2 : Option Addr) (n1 n2 c1 c2 : Nat) (X Y : Int) (w : World) (hx : Wh w s ad1 n1 c1 X) (hy : Wh w t ad2 n2 c2 Y) :
    Calls Tryd.prog 31 #[.agg #[.bool s, .slice ad1 n1 c1], .agg #[.bool t, .slice ad2 n2 c2]] w fun r w' => r = .returned (.tuple #[.int .i64 (sg (X - Y)), .int .i64 0]) ∧ Gr w w' := by
  have BO : Hid (∀ w1, Gr w w1 → Calls Tryd.prog 58 #[.agg #[.bool s, .slice ad1 n1 c1], .agg #[.bool t, .slice ad2 n2 c2]] w1 fun r w' => r = .returned (.bool true) ∧ Gr w1 w') := fun w1 g => by
    obtain ⟨xs, rx, dx, hR⟩ := hx.right
    obtain ⟨ys, ry, dy, hR2⟩ := hy.right
    have := bothR s t ad1 ad2 n1 n2 c1 c2 xs ys w1 (rx.gr g) (ry.gr g)
    rw [rightN_t hR, rightN_t hR2] at this
    exact this
  have IA : Hid (∀ w1, Gr w w1 → Calls Tryd.prog 48 #[.agg #[.bool s, .slice ad1 n1 c1]] w1 fun r w' => ∃ b c d, r = .returned (.agg #[.bool s, .slice b c d, .int .i64 0]) ∧ Hid (Lim w' b c d 18446744073709551616 X.natAbs) ∧ Gr w1 w') := fun w1 g => intR s ad1 n1 c1 X w1 (hx.gr g)
  have IB : Hid (∀ w1, Gr w w1 → Calls Tryd.prog 48 #[.agg #[.bool t, .slice ad2 n2 c2]] w1 fun r w' => ∃ b c d, r = .returned (.agg #[.bool t, .slice b c d, .int .i64 0]) ∧ Hid (Lim w' b c d 18446744073709551616 Y.natAbs) ∧ Gr w1 w') := fun w1 g => intR t ad2 n2 c2 Y w1 (hy.gr g)
  have CMP : Hid (∀ (b b' : Option Addr) (k d k' d' : Nat) (w1 : World), Lim w1 b k d 18446744073709551616 X.natAbs → Lim w1 b' k' d' 18446744073709551616 Y.natAbs → Calls Tryd.prog 49 #[.agg #[.bool s, .slice b k d, .int .i64 0], .agg #[.bool t, .slice b' k' d', .int .i64 0]] w1 fun r w' => r = .returned (.int .i64 (sg (X - Y))) ∧ Gr w1 w') := fun b b' k d k' d' w1 h1 h2 => by
    have := compareW s t b b' k k' d d' _ _ w1 h1 h2 hx.bl hy.bl
    rw [iv_val hx, iv_val hy] at this
    exact this
  clear hx hy
  have GA : Gr w ((w.alloc (.cells #[.bool s, .slice ad1 n1 c1] 24)).alloc (.cells #[.bool t, .slice ad2 n2 c2] 24)) := ((Gr.refl w).alloc _).alloc _
  have B2 := blk2 w (.cells #[.bool s, .slice ad1 n1 c1] 24) (.cells #[.bool t, .slice ad2 n2 c2] 24)
  have S0 : Hid ((((w.alloc (.cells #[.bool s, .slice ad1 n1 c1] 24)).alloc (.cells #[.bool t, .slice ad2 n2 c2] 24)).cell? ⟨w.heap.size, 0, none⟩ = some (.bool s) ∧ ((w.alloc (.cells #[.bool s, .slice ad1 n1 c1] 24)).alloc (.cells #[.bool t, .slice ad2 n2 c2] 24)).cell? ⟨w.heap.size, 1, none⟩ = some (.slice ad1 n1 c1) ∧ ((w.alloc (.cells #[.bool s, .slice ad1 n1 c1] 24)).alloc (.cells #[.bool t, .slice ad2 n2 c2] 24)).cell? ⟨w.heap.size + 1, 0, none⟩ = some (.bool t) ∧ ((w.alloc (.cells #[.bool s, .slice ad1 n1 c1] 24)).alloc (.cells #[.bool t, .slice ad2 n2 c2] 24)).cell? ⟨w.heap.size + 1, 1, none⟩ = some (.slice ad2 n2 c2)) ∧ Gr w ((w.alloc (.cells #[.bool s, .slice ad1 n1 c1] 24)).alloc (.cells #[.bool t, .slice ad2 n2 c2] 24))) := ⟨⟨(bx2 B2.1).1, (bx2 B2.1).2, (bx2 B2.2).1, (bx2 B2.2).2⟩, GA⟩
  clear B2
  generalize sg (X - Y) = res at *
  go_enter Tryd.func31, Tryd.ntmps31
  go_wp2_with (go_at_call 58; (with_reducible refine (BO.out _ GA).mono ?_); rintro r w1 ⟨rfl, g1⟩)
  have S1 := keepC4 ((Gr.refl w1).drew) (keepC4 g1 S0.out)
  have G1 := GA.trans g1
  clear S0 g1 GA
  go_region_held3 (fun w' => (w'.cell? ⟨w.heap.size, 0, none⟩ = some (.bool s) ∧ w'.cell? ⟨w.heap.size, 1, none⟩ = some (.slice ad1 n1 c1) ∧ w'.cell? ⟨w.heap.size + 1, 0, none⟩ = some (.bool t) ∧ w'.cell? ⟨w.heap.size + 1, 1, none⟩ = some (.slice ad2 n2 c2)) ∧ Gr w w') (first | (with_reducible assumption) | (apply keepC4; (with_reducible assumption); (with_reducible assumption))) (first | (go_at_call 48; (with_reducible refine (IA.out _ ?gg).mono ?_); (case gg => exact And.right ‹_ ∧ Gr w _›); rintro r w2 ⟨b2, k2, d2, rfl, L2, g2⟩) | (go_at_call 48; (with_reducible refine (IB.out _ ?gg).mono ?_); (case gg => exact And.right ‹_ ∧ Gr w _›); rintro r w3 ⟨b3, k3, d3, rfl, L3, g3⟩) | (go_at_call 49; (with_reducible refine (CMP.out _ _ _ _ _ _ _ (L2.out.gr g3) L3.out).mono ?_); rintro r w4 ⟨rfl, g4⟩))
  go_wp2
  go_ret2
  exact ⟨rfl, (((G1.trans ((Gr.refl w1).drew)).trans g2).trans g3).trans g4⟩
theorem bothN (s t : Bool) (ad1 ad2 : Option Addr) (n1 n2 c1 c2 : Nat) (xs ys : List Nat) (w : World) (rx : Row w ad1 n1 c1 xs) (ry : Row w ad2 n2 c2 ys) (hn : (rightN s xs && rightN t ys) = false) : Hid (∀ w1, Gr w w1 → Calls Tryd.prog 58 #[.agg #[.bool s, .slice ad1 n1 c1], .agg #[.bool t, .slice ad2 n2 c2]] w1 fun r w' => r = .returned (.bool false) ∧ Gr w1 w') := fun w1 g => by
  have := bothR s t ad1 ad2 n1 n2 c1 c2 xs ys w1 (rx.gr g) (ry.gr g)
  rw [hn] at this
  exact this
set_option maxHeartbeats 800000 in
theorem refCmpN (s t : Bool) (ad1 ad2 : Option Addr) (n1 n2 c1 c2 : Nat) (xs ys : List Nat) (w : World) (rx : Row w ad1 n1 c1 xs) (ry : Row w ad2 n2 c2 ys) (hn : (rightN s xs && rightN t ys) = false) :
    Calls Tryd.prog 31 #[.agg #[.bool s, .slice ad1 n1 c1], .agg #[.bool t, .slice ad2 n2 c2]] w fun r w' => r = .returned (.tuple #[.int .i64 0, .int .i64 2]) ∧ Gr w w' := by
  have BO := bothN s t ad1 ad2 n1 n2 c1 c2 xs ys w rx ry hn
  clear rx ry hn
  have GA : Gr w ((w.alloc (.cells #[.bool s, .slice ad1 n1 c1] 24)).alloc (.cells #[.bool t, .slice ad2 n2 c2] 24)) := ((Gr.refl w).alloc _).alloc _
  go_enter Tryd.func31, Tryd.ntmps31
  go_wp2_with (go_at_call 58; (with_reducible refine (BO.out _ GA).mono ?_); rintro r w1 ⟨rfl, g1⟩)
  go_ret2
  exact ⟨rfl, GA.trans g1⟩

set_option maxHeartbeats 800000 in
theorem refAddN (s t : Bool) (ad1 ad2 : Option Addr) (n1 n2 c1 c2 : Nat) (xs ys : List Nat) (w : World) (rx : Row w ad1 n1 c1 xs) (ry : Row w ad2 n2 c2 ys) (hn : (rightN s xs && rightN t ys) = false) :
    Calls Tryd.prog 32 #[.agg #[.bool s, .slice ad1 n1 c1], .agg #[.bool t, .slice ad2 n2 c2]] w fun r w' => r = .returned (.tuple #[.agg #[.bool false, .slice none 0 0], .int .i64 2]) ∧ Gr w w' := by
  have BO := bothN s t ad1 ad2 n1 n2 c1 c2 xs ys w rx ry hn
  clear rx ry hn
  have GA : Gr w (((w.alloc (.cells #[.bool s, .slice ad1 n1 c1] 24)).alloc (.cells #[.bool t, .slice ad2 n2 c2] 24)).alloc (.cells #[.bool false, .slice none 0 0] 24)) := (((Gr.refl w).alloc _).alloc _).alloc _
  have HO : Hid ((((w.alloc (.cells #[.bool s, .slice ad1 n1 c1] 24)).alloc (.cells #[.bool t, .slice ad2 n2 c2] 24)).alloc (.cells #[.bool false, .slice none 0 0] 24)).heap[w.heap.size + 1 + 1]? = some (.cells #[.bool false, .slice none 0 0] 24)) := (blk3 w (.cells #[.bool s, .slice ad1 n1 c1] 24) (.cells #[.bool t, .slice ad2 n2 c2] 24) (.cells #[.bool false, .slice none 0 0] 24)).2.2
  go_enter Tryd.func32, Tryd.ntmps32
  go_wp2_with (go_at_call 58; (with_reducible refine (BO.out _ GA).mono ?_); rintro r w1 ⟨rfl, g1⟩; have hb6 := keepO g1 HO.out; obtain ⟨q0, q1, q2, q3⟩ := Out2.of hb6; have hlt := lt_of_get2 hb6)
  refine bodyPost_ret (v := .tuple #[.agg #[.bool false, .slice none 0 0], .int .i64 2]) ?_ rfl ⟨rfl, (((GA.trans g1).setCell (p := ⟨w.heap.size + 1 + 1, 0, none⟩) (by show _ ≤ w.heap.size + 1 + 1; omega) _).setCell (p := ⟨w.heap.size + 1 + 1, 1, none⟩) (by show _ ≤ w.heap.size + 1 + 1; omega) _)⟩
  simp [results, Tryd.results32, go_sem, q0, q1]

set_option maxHeartbeats 800000 in
theorem refSubN (s t : Bool) (ad1 ad2 : Option Addr) (n1 n2 c1 c2 : Nat) (xs ys : List Nat) (w : World) (rx : Row w ad1 n1 c1 xs) (ry : Row w ad2 n2 c2 ys) (hn : (rightN s xs && rightN t ys) = false) :
    Calls Tryd.prog 33 #[.agg #[.bool s, .slice ad1 n1 c1], .agg #[.bool t, .slice ad2 n2 c2]] w fun r w' => r = .returned (.tuple #[.agg #[.bool false, .slice none 0 0], .int .i64 2]) ∧ Gr w w' := by
  have BO := bothN s t ad1 ad2 n1 n2 c1 c2 xs ys w rx ry hn
  clear rx ry hn
  have GA : Gr w (((w.alloc (.cells #[.bool s, .slice ad1 n1 c1] 24)).alloc (.cells #[.bool t, .slice ad2 n2 c2] 24)).alloc (.cells #[.bool false, .slice none 0 0] 24)) := (((Gr.refl w).alloc _).alloc _).alloc _
  have HO : Hid ((((w.alloc (.cells #[.bool s, .slice ad1 n1 c1] 24)).alloc (.cells #[.bool t, .slice ad2 n2 c2] 24)).alloc (.cells #[.bool false, .slice none 0 0] 24)).heap[w.heap.size + 1 + 1]? = some (.cells #[.bool false, .slice none 0 0] 24)) := (blk3 w (.cells #[.bool s, .slice ad1 n1 c1] 24) (.cells #[.bool t, .slice ad2 n2 c2] 24) (.cells #[.bool false, .slice none 0 0] 24)).2.2
  go_enter Tryd.func33, Tryd.ntmps33
  go_wp2_with (go_at_call 58; (with_reducible refine (BO.out _ GA).mono ?_); rintro r w1 ⟨rfl, g1⟩; have hb6 := keepO g1 HO.out; obtain ⟨q0, q1, q2, q3⟩ := Out2.of hb6; have hlt := lt_of_get2 hb6)
  refine bodyPost_ret (v := .tuple #[.agg #[.bool false, .slice none 0 0], .int .i64 2]) ?_ rfl ⟨rfl, (((GA.trans g1).setCell (p := ⟨w.heap.size + 1 + 1, 0, none⟩) (by show _ ≤ w.heap.size + 1 + 1; omega) _).setCell (p := ⟨w.heap.size + 1 + 1, 1, none⟩) (by show _ ≤ w.heap.size + 1 + 1; omega) _)⟩
  simp [results, Tryd.results33, go_sem, q0, q1]
end Go.Proofs.YtniaelpbjgkfmaaDoor
