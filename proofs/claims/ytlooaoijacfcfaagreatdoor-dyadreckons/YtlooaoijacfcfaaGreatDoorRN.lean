import Derived.Test.YtlooaoijacfcfaaGreatDoorRM
namespace Go.Proofs.YtlooaoijacfcfaaGreatDoor
open Go.RowKit
set_option linter.unusedVariables false

theorem DyAt.bl {w : World} {s : Bool} {ad : Option Addr} {n cap : Nat} {e : Int} {x : Nat} (h : DyAt w s ad n cap e x) : bl x ≤ 262144 := by
  obtain ⟨xs, h1, h2⟩ := h.lim
  have h3 := bl_len h2
  rw [h1.len] at h3
  have := h.le
  omega
theorem DyAt.lt {w : World} {s : Bool} {ad : Option Addr} {n cap : Nat} {e : Int} {x : Nat} (h : DyAt w s ad n cap e x) : x < 18446744073709551616 ^ L4096 := by
  obtain ⟨xs, h1, h2⟩ := h.lim
  refine Nat.lt_of_lt_of_le h2.upper (Nat.pow_le_pow_right (by omega) ?_)
  rw [h1.len, L4096_eq]; exact h.le
theorem DyAt.odd {w : World} {s : Bool} {ad : Option Addr} {n cap : Nat} {e : Int} {x : Nat} (h : DyAt w s ad n cap e x) : x = 0 ∨ ∃ q, x = 2 * q + 1 := by
  rcases h.right with ⟨h, _⟩ | ⟨q, h, _⟩
  · exact Or.inl h
  · exact Or.inr ⟨q, h⟩
theorem bl_mul (x y : Nat) : bl (x * y) ≤ bl x + bl y := by
  refine bl_le_of_lt ?_
  rw [Nat.pow_add]
  exact Nat.mul_lt_mul'' (bl_lt x) (bl_lt y)
/-- the reference's Right tells true of it -/
theorem DyAt.r25 {w : World} {s : Bool} {ad : Option Addr} {n cap : Nat} {e : Int} {x : Nat} (h : DyAt w s ad n cap e x) : Hid (∀ w1, Gr w w1 → Calls Tryz.prog 25 #[.agg #[.bool s, .slice ad n cap, .int .i64 e]] w1 fun r w' => r = .returned (.bool true) ∧ Gr w1 w') := by
  obtain ⟨xs, h1, h2, h3⟩ := h.rightD
  intro w1 g
  have := right25 s ad n cap e xs w1 (h1.gr g) h2.2.1
  rw [rightB_t h3] at this
  exact this
/-- told, with its answer's form -/
theorem told26f (s : Bool) (ad : Option Addr) (n cap x : Nat) (e : Int) (w : World) (hx : Lim w ad n cap 18446744073709551616 x) (hb : bl x ≤ 34359738368) (e1 : -1000000000000 ≤ e) (e2 : e ≤ 1000000000000) :
    Calls Tryz.prog 26 #[.agg #[.bool s, .slice ad n cap, .int .i64 e]] w fun r w' => ∃ a b c d f' g', r = .returned (.tuple #[.agg #[.bool a, .slice b c d, .int .i64 f'], .int .i64 g']) ∧ Hid (Settled w' r s x e) ∧ Gr w w' := by
  refine (told26 s ad n cap x e w hx hb e1 e2).mono ?_
  rintro r w' ⟨h1, h2⟩
  obtain ⟨a, b, c, d, f, g', hr⟩ := h1.form
  exact ⟨a, b, c, d, f, g', hr, h1, h2⟩
set_option maxRecDepth 10000 in
set_option maxHeartbeats 3200000 in
theorem ref7 (s t : Bool) (ad1 ad2 : Option Addr) (n1 n2 c1 c2 : Nat) (e f : Int) (x y : Nat) (w : World) (dx : DyAt w s ad1 n1 c1 e x) (dy : DyAt w t ad2 n2 c2 f y) :
    Calls Tryz.prog 7 #[.agg #[.bool s, .slice ad1 n1 c1, .int .i64 e], .agg #[.bool t, .slice ad2 n2 c2, .int .i64 f]] w fun r w' => SetV w' r (sv KK s x e + sv KK t y f) ∧ Gr w w' := by
  have hkk := KK_eq
  have R1 := dx.r25
  have R2 := dy.r25
  have bx := dx.bl
  have by' := dy.bl
  have e1 := dx.low
  have e2 := dx.high
  have f1 := dy.low
  have f2 := dy.high
  have D1 : Hid (∀ w1, Gr w w1 → Calls Tryz.prog 28 #[.agg #[.bool s, .slice ad1 n1 c1, .int .i64 e]] w1 fun r w' => ∃ ad' n' cap', r = .returned (.agg #[.bool s, .slice ad' n' cap', .int .i64 e]) ∧ Lim w' ad' n' cap' 18446744073709551616 x ∧ Gr w1 w') := fun w1 g => dyad28 s ad1 n1 c1 x e w1 (dx.lim.gr g) (by omega)
  have D2 : Hid (∀ w1, Gr w w1 → Calls Tryz.prog 28 #[.agg #[.bool t, .slice ad2 n2 c2, .int .i64 f]] w1 fun r w' => ∃ ad' n' cap', r = .returned (.agg #[.bool t, .slice ad' n' cap', .int .i64 f]) ∧ Lim w' ad' n' cap' 18446744073709551616 y ∧ Gr w1 w') := fun w1 g => dyad28 t ad2 n2 c2 y f w1 (dy.lim.gr g) (by omega)
  clear dx dy
  have TB := three_blocks w (.bool s) (.slice ad1 n1 c1) (.int .i64 e) (.bool t) (.slice ad2 n2 c2) (.int .i64 f) (.cells #[.bool false, .slice none 0 0, .int .i64 0] 24) _ rfl
  have TB' : Hid _ := TB
  clear TB
  have tok : True := trivial
  have ne1 : w.heap.size + 2 ≠ w.heap.size := by omega
  have ne2 : w.heap.size + 2 ≠ w.heap.size + 1 := by omega
  have le2 : w.heap.size ≤ w.heap.size + 2 := by omega
  go_enter Tryz.func7, Tryz.ntmps7
  go_wp2_with (first | (go_at_call 25; have _t := tok; (with_reducible refine (R1.out _ ((((Gr.refl w).alloc _).alloc _).alloc _)).mono ?_); rintro r w1 ⟨rfl, g1⟩; clear tok; have q0 := g1.keep TB'.out.1.1.2.2.2.1; have q1 := g1.keep TB'.out.1.1.2.2.2.2.1; have q2 := g1.keep TB'.out.1.1.2.2.2.2.2) | (go_at_call 25; (with_reducible refine (R2.out _ ?gg).mono ?_); (case gg => exact ((((Gr.refl w).alloc _).alloc _).alloc _).trans g1); rintro r w2 ⟨rfl, g2⟩; clear q0 q1 q2))
  have GA := ((Gr.refl (((w.alloc (.cells #[.bool s, .slice ad1 n1 c1, .int .i64 e] 24)).alloc (.cells #[.bool t, .slice ad2 n2 c2, .int .i64 f] 24)).alloc (.cells #[.bool false, .slice none 0 0, .int .i64 0] 24))).trans g1).trans g2
  have kb := GA.keepH TB'.out.2.1
  have hS0 : (w2.drew.cell? ⟨w.heap.size, 0, none⟩ = some (.bool s) ∧ w2.drew.cell? ⟨w.heap.size, 1, none⟩ = some (.slice ad1 n1 c1) ∧ w2.drew.cell? ⟨w.heap.size, 2, none⟩ = some (.int .i64 e) ∧ w2.drew.cell? ⟨w.heap.size + 1, 0, none⟩ = some (.bool t) ∧ w2.drew.cell? ⟨w.heap.size + 1, 1, none⟩ = some (.slice ad2 n2 c2) ∧ w2.drew.cell? ⟨w.heap.size + 1, 2, none⟩ = some (.int .i64 f)) ∧ (w2.drew.cell? ⟨w.heap.size + 2, 0, none⟩ = some (cellV w2.drew (w.heap.size + 2) 0) ∧ w2.drew.cell? ⟨w.heap.size + 2, 1, none⟩ = some (cellV w2.drew (w.heap.size + 2) 1) ∧ w2.drew.cell? ⟨w.heap.size + 2, 2, none⟩ = some (cellV w2.drew (w.heap.size + 2) 2) ∧ w2.drew.frozen? ⟨w.heap.size + 2, 0, none⟩ = false ∧ w2.drew.frozen? ⟨w.heap.size + 2, 1, none⟩ = false ∧ w2.drew.frozen? ⟨w.heap.size + 2, 2, none⟩ = false) ∧ Gr w w2.drew := by
    have c6 := keep6 GA TB'.out.1
    have cz := cells_ofT kb
    have co := open_ofT kb
    exact ⟨c6.1, ⟨cellV_some cz.1, cellV_some cz.2.1, cellV_some cz.2.2, co.1, co.2.1, co.2.2⟩, (TB'.out.2.2.trans GA).drew⟩
  have HO : Hid (w2.drew.heap[w.heap.size + 2]? = some (.cells #[.bool false, .slice none 0 0, .int .i64 0] 24)) := kb
  clear kb GA g1 g2 TB'
  go_region_held3 (fun w' => (w'.cell? ⟨w.heap.size, 0, none⟩ = some (.bool s) ∧ w'.cell? ⟨w.heap.size, 1, none⟩ = some (.slice ad1 n1 c1) ∧ w'.cell? ⟨w.heap.size, 2, none⟩ = some (.int .i64 e) ∧ w'.cell? ⟨w.heap.size + 1, 0, none⟩ = some (.bool t) ∧ w'.cell? ⟨w.heap.size + 1, 1, none⟩ = some (.slice ad2 n2 c2) ∧ w'.cell? ⟨w.heap.size + 1, 2, none⟩ = some (.int .i64 f)) ∧ (w'.cell? ⟨w.heap.size + 2, 0, none⟩ = some (cellV w' (w.heap.size + 2) 0) ∧ w'.cell? ⟨w.heap.size + 2, 1, none⟩ = some (cellV w' (w.heap.size + 2) 1) ∧ w'.cell? ⟨w.heap.size + 2, 2, none⟩ = some (cellV w' (w.heap.size + 2) 2) ∧ w'.frozen? ⟨w.heap.size + 2, 0, none⟩ = false ∧ w'.frozen? ⟨w.heap.size + 2, 1, none⟩ = false ∧ w'.frozen? ⟨w.heap.size + 2, 2, none⟩ = false) ∧ Gr w w') (first | (with_reducible assumption) | (apply keepG; (with_reducible assumption); (with_reducible assumption)) | (refine keepStG rfl ne1 ne2 le2 ?_; (with_reducible assumption))) (first | (go_at_call 28; (with_reducible refine (D1.out _ ?gg).mono ?_); (case gg => exact And.right (And.right ‹_ ∧ _ ∧ Gr w _›)); rintro r w3 ⟨a3, m3, k3, rfl, hl3, g3⟩) | (go_at_call 28; (with_reducible refine (D2.out _ ?gg).mono ?_); (case gg => exact And.right (And.right ‹_ ∧ _ ∧ Gr w _›)); rintro r w4 ⟨a4, m4, k4, rfl, hl4, g4⟩) | (go_at_call 27; obtain ⟨neg, m, g, hw, hgg, hbm, PL⟩ := plus40 s t a3 a4 m3 m4 k3 k4 x y e f _ (hl3.gr g4) hl4 (by omega) (by omega) (by omega) (by omega) (by omega) (by omega); refine (PL _ (Gr.refl _)).mono ?_; have HW : Hid (0 ≤ g + KK ∧ sv KK neg m g = sv KK s x e + sv KK t y f) := hw KK (by omega) (by omega); clear hw PL; rintro r w5 ⟨a5, m5, k5, rfl, hl5, g5⟩; have hb5 : bl m ≤ 34359738368 := (by omega); have gl : -1000000000000 ≤ g := (by omega); have gh : g ≤ 1000000000000 := (by omega); clear hgg hbm) | (go_at_call 26; (with_reducible refine (told26f neg a5 m5 k5 m g _ hl5 hb5 gl gh).mono ?_); rintro r w6 ⟨za, zb, zc, zd, zf, zg, rfl, hS, g6⟩))
  have hS4 := keepG g6 (keepG g5 (keepG g4 (keepG g3 hS0)))
  have k0 := hS4.2.1.1
  have k1 := hS4.2.1.2.1
  have k2 := hS4.2.1.2.2.1
  have hb1 : w6.heap[w.heap.size + 2]? = some (.cells #[.bool false, .slice none 0 0, .int .i64 0] 24) := g6.keepH (g5.keepH (g4.keepH (g3.keepH HO.out)))
  have hG := (((hS4.2.2.setCell (p := ⟨w.heap.size + 2, 0, none⟩) le2 (.bool za)).setCell (p := ⟨w.heap.size + 2, 1, none⟩) le2 (.slice zb zc zd)).setCell (p := ⟨w.heap.size + 2, 2, none⟩) le2 (.int .i64 zf))
  have HS3 := hS.out.set3 hb1 (.bool za) (.slice zb zc zd) (.int .i64 zf)
  clear hS0 hS4 hb1 HO
  go_wp2
  refine bodyPost_ret (v := .tuple #[.agg #[.bool za, .slice zb zc zd, .int .i64 zf], .int .i64 zg]) ?_ rfl ⟨⟨neg, m, g, HW.out.1, HW.out.2, HS3⟩, hG⟩
  simp [results, Tryz.results7, go_sem, k0, k1, k2]
set_option maxRecDepth 10000 in
set_option maxHeartbeats 3200000 in
theorem ref9 (s t : Bool) (ad1 ad2 : Option Addr) (n1 n2 c1 c2 : Nat) (e f : Int) (x y : Nat) (w : World) (dx : DyAt w s ad1 n1 c1 e x) (dy : DyAt w t ad2 n2 c2 f y) :
    Calls Tryz.prog 9 #[.agg #[.bool s, .slice ad1 n1 c1, .int .i64 e], .agg #[.bool t, .slice ad2 n2 c2, .int .i64 f]] w fun r w' => SetV w' r (sv KK s x e - sv KK t y f) ∧ Gr w w' := by
  have hkk := KK_eq
  have R1 := dx.r25
  have R2 := dy.r25
  have bx := dx.bl
  have by' := dy.bl
  have e1 := dx.low
  have e2 := dx.high
  have f1 := dy.low
  have f2 := dy.high
  have D1 : Hid (∀ w1, Gr w w1 → Calls Tryz.prog 28 #[.agg #[.bool s, .slice ad1 n1 c1, .int .i64 e]] w1 fun r w' => ∃ ad' n' cap', r = .returned (.agg #[.bool s, .slice ad' n' cap', .int .i64 e]) ∧ Lim w' ad' n' cap' 18446744073709551616 x ∧ Gr w1 w') := fun w1 g => dyad28 s ad1 n1 c1 x e w1 (dx.lim.gr g) (by omega)
  have D2 : Hid (∀ w1, Gr w w1 → Calls Tryz.prog 28 #[.agg #[.bool t, .slice ad2 n2 c2, .int .i64 f]] w1 fun r w' => ∃ ad' n' cap', r = .returned (.agg #[.bool t, .slice ad' n' cap', .int .i64 f]) ∧ Lim w' ad' n' cap' 18446744073709551616 y ∧ Gr w1 w') := fun w1 g => dyad28 t ad2 n2 c2 y f w1 (dy.lim.gr g) (by omega)
  clear dx dy
  have TB := three_blocks w (.bool s) (.slice ad1 n1 c1) (.int .i64 e) (.bool t) (.slice ad2 n2 c2) (.int .i64 f) (.cells #[.bool false, .slice none 0 0, .int .i64 0] 24) _ rfl
  have TB' : Hid _ := TB
  clear TB
  have tok : True := trivial
  have ne1 : w.heap.size + 2 ≠ w.heap.size := by omega
  have ne2 : w.heap.size + 2 ≠ w.heap.size + 1 := by omega
  have le2 : w.heap.size ≤ w.heap.size + 2 := by omega
  go_enter Tryz.func9, Tryz.ntmps9
  go_wp2_with (first | (go_at_call 25; have _t := tok; (with_reducible refine (R1.out _ ((((Gr.refl w).alloc _).alloc _).alloc _)).mono ?_); rintro r w1 ⟨rfl, g1⟩; clear tok; have q0 := g1.keep TB'.out.1.1.2.2.2.1; have q1 := g1.keep TB'.out.1.1.2.2.2.2.1; have q2 := g1.keep TB'.out.1.1.2.2.2.2.2) | (go_at_call 25; (with_reducible refine (R2.out _ ?gg).mono ?_); (case gg => exact ((((Gr.refl w).alloc _).alloc _).alloc _).trans g1); rintro r w2 ⟨rfl, g2⟩; clear q0 q1 q2))
  have GA := ((Gr.refl (((w.alloc (.cells #[.bool s, .slice ad1 n1 c1, .int .i64 e] 24)).alloc (.cells #[.bool t, .slice ad2 n2 c2, .int .i64 f] 24)).alloc (.cells #[.bool false, .slice none 0 0, .int .i64 0] 24))).trans g1).trans g2
  have kb := GA.keepH TB'.out.2.1
  have hS0 : (w2.drew.cell? ⟨w.heap.size, 0, none⟩ = some (.bool s) ∧ w2.drew.cell? ⟨w.heap.size, 1, none⟩ = some (.slice ad1 n1 c1) ∧ w2.drew.cell? ⟨w.heap.size, 2, none⟩ = some (.int .i64 e) ∧ w2.drew.cell? ⟨w.heap.size + 1, 0, none⟩ = some (.bool t) ∧ w2.drew.cell? ⟨w.heap.size + 1, 1, none⟩ = some (.slice ad2 n2 c2) ∧ w2.drew.cell? ⟨w.heap.size + 1, 2, none⟩ = some (.int .i64 f)) ∧ (w2.drew.cell? ⟨w.heap.size + 2, 0, none⟩ = some (cellV w2.drew (w.heap.size + 2) 0) ∧ w2.drew.cell? ⟨w.heap.size + 2, 1, none⟩ = some (cellV w2.drew (w.heap.size + 2) 1) ∧ w2.drew.cell? ⟨w.heap.size + 2, 2, none⟩ = some (cellV w2.drew (w.heap.size + 2) 2) ∧ w2.drew.frozen? ⟨w.heap.size + 2, 0, none⟩ = false ∧ w2.drew.frozen? ⟨w.heap.size + 2, 1, none⟩ = false ∧ w2.drew.frozen? ⟨w.heap.size + 2, 2, none⟩ = false) ∧ Gr w w2.drew := by
    have c6 := keep6 GA TB'.out.1
    have cz := cells_ofT kb
    have co := open_ofT kb
    exact ⟨c6.1, ⟨cellV_some cz.1, cellV_some cz.2.1, cellV_some cz.2.2, co.1, co.2.1, co.2.2⟩, (TB'.out.2.2.trans GA).drew⟩
  have HO : Hid (w2.drew.heap[w.heap.size + 2]? = some (.cells #[.bool false, .slice none 0 0, .int .i64 0] 24)) := kb
  clear kb GA g1 g2 TB'
  go_region_held3 (fun w' => (w'.cell? ⟨w.heap.size, 0, none⟩ = some (.bool s) ∧ w'.cell? ⟨w.heap.size, 1, none⟩ = some (.slice ad1 n1 c1) ∧ w'.cell? ⟨w.heap.size, 2, none⟩ = some (.int .i64 e) ∧ w'.cell? ⟨w.heap.size + 1, 0, none⟩ = some (.bool t) ∧ w'.cell? ⟨w.heap.size + 1, 1, none⟩ = some (.slice ad2 n2 c2) ∧ w'.cell? ⟨w.heap.size + 1, 2, none⟩ = some (.int .i64 f)) ∧ (w'.cell? ⟨w.heap.size + 2, 0, none⟩ = some (cellV w' (w.heap.size + 2) 0) ∧ w'.cell? ⟨w.heap.size + 2, 1, none⟩ = some (cellV w' (w.heap.size + 2) 1) ∧ w'.cell? ⟨w.heap.size + 2, 2, none⟩ = some (cellV w' (w.heap.size + 2) 2) ∧ w'.frozen? ⟨w.heap.size + 2, 0, none⟩ = false ∧ w'.frozen? ⟨w.heap.size + 2, 1, none⟩ = false ∧ w'.frozen? ⟨w.heap.size + 2, 2, none⟩ = false) ∧ Gr w w') (first | (with_reducible assumption) | (apply keepG; (with_reducible assumption); (with_reducible assumption)) | (refine keepStG rfl ne1 ne2 le2 ?_; (with_reducible assumption))) (first | (go_at_call 28; (with_reducible refine (D1.out _ ?gg).mono ?_); (case gg => exact And.right (And.right ‹_ ∧ _ ∧ Gr w _›)); rintro r w3 ⟨a3, m3, k3, rfl, hl3, g3⟩) | (go_at_call 28; (with_reducible refine (D2.out _ ?gg).mono ?_); (case gg => exact And.right (And.right ‹_ ∧ _ ∧ Gr w _›)); rintro r w4 ⟨a4, m4, k4, rfl, hl4, g4⟩) | (go_at_call 30; obtain ⟨neg, m, g, hw, hgg, hbm, PL⟩ := less49 s t a3 a4 m3 m4 k3 k4 x y e f _ (hl3.gr g4) hl4 (by omega) (by omega) (by omega) (by omega) (by omega) (by omega); refine (PL _ (Gr.refl _)).mono ?_; have HW : Hid (0 ≤ g + KK ∧ sv KK neg m g = sv KK s x e - sv KK t y f) := hw KK (by omega) (by omega); clear hw PL; rintro r w5 ⟨a5, m5, k5, rfl, hl5, g5⟩; have hb5 : bl m ≤ 34359738368 := (by omega); have gl : -1000000000000 ≤ g := (by omega); have gh : g ≤ 1000000000000 := (by omega); clear hgg hbm) | (go_at_call 26; (with_reducible refine (told26f neg a5 m5 k5 m g _ hl5 hb5 gl gh).mono ?_); rintro r w6 ⟨za, zb, zc, zd, zf, zg, rfl, hS, g6⟩))
  have hS4 := keepG g6 (keepG g5 (keepG g4 (keepG g3 hS0)))
  have k0 := hS4.2.1.1
  have k1 := hS4.2.1.2.1
  have k2 := hS4.2.1.2.2.1
  have hb1 : w6.heap[w.heap.size + 2]? = some (.cells #[.bool false, .slice none 0 0, .int .i64 0] 24) := g6.keepH (g5.keepH (g4.keepH (g3.keepH HO.out)))
  have hG := (((hS4.2.2.setCell (p := ⟨w.heap.size + 2, 0, none⟩) le2 (.bool za)).setCell (p := ⟨w.heap.size + 2, 1, none⟩) le2 (.slice zb zc zd)).setCell (p := ⟨w.heap.size + 2, 2, none⟩) le2 (.int .i64 zf))
  have HS3 := hS.out.set3 hb1 (.bool za) (.slice zb zc zd) (.int .i64 zf)
  clear hS0 hS4 hb1 HO
  go_wp2
  refine bodyPost_ret (v := .tuple #[.agg #[.bool za, .slice zb zc zd, .int .i64 zf], .int .i64 zg]) ?_ rfl ⟨⟨neg, m, g, HW.out.1, HW.out.2, HS3⟩, hG⟩
  simp [results, Tryz.results9, go_sem, k0, k1, k2]
set_option maxRecDepth 10000 in
set_option maxHeartbeats 3200000 in
theorem ref12 (s t : Bool) (ad1 ad2 : Option Addr) (n1 n2 c1 c2 : Nat) (e f : Int) (x y : Nat) (w : World) (dx : DyAt w s ad1 n1 c1 e x) (dy : DyAt w t ad2 n2 c2 f y) :
    Calls Tryz.prog 12 #[.agg #[.bool s, .slice ad1 n1 c1, .int .i64 e], .agg #[.bool t, .slice ad2 n2 c2, .int .i64 f]] w fun r w' => SetV w' r (sv KK (s != t) (x * y) (e + f)) ∧ Gr w w' := by
  have hkk := KK_eq
  have R1 := dx.r25
  have R2 := dy.r25
  have bx := dx.bl
  have by' := dy.bl
  have e1 := dx.low
  have e2 := dx.high
  have f1 := dy.low
  have f2 := dy.high
  have D1 : Hid (∀ w1, Gr w w1 → Calls Tryz.prog 28 #[.agg #[.bool s, .slice ad1 n1 c1, .int .i64 e]] w1 fun r w' => ∃ ad' n' cap', r = .returned (.agg #[.bool s, .slice ad' n' cap', .int .i64 e]) ∧ Lim w' ad' n' cap' 18446744073709551616 x ∧ Gr w1 w') := fun w1 g => dyad28 s ad1 n1 c1 x e w1 (dx.lim.gr g) (by omega)
  have D2 : Hid (∀ w1, Gr w w1 → Calls Tryz.prog 28 #[.agg #[.bool t, .slice ad2 n2 c2, .int .i64 f]] w1 fun r w' => ∃ ad' n' cap', r = .returned (.agg #[.bool t, .slice ad' n' cap', .int .i64 f]) ∧ Lim w' ad' n' cap' 18446744073709551616 y ∧ Gr w1 w') := fun w1 g => dyad28 t ad2 n2 c2 y f w1 (dy.lim.gr g) (by omega)
  clear dx dy
  have TB := three_blocks w (.bool s) (.slice ad1 n1 c1) (.int .i64 e) (.bool t) (.slice ad2 n2 c2) (.int .i64 f) (.cells #[.bool false, .slice none 0 0, .int .i64 0] 24) _ rfl
  have TB' : Hid _ := TB
  clear TB
  have tok : True := trivial
  have ne1 : w.heap.size + 2 ≠ w.heap.size := by omega
  have ne2 : w.heap.size + 2 ≠ w.heap.size + 1 := by omega
  have le2 : w.heap.size ≤ w.heap.size + 2 := by omega
  go_enter Tryz.func12, Tryz.ntmps12
  go_wp2_with (first | (go_at_call 25; have _t := tok; (with_reducible refine (R1.out _ ((((Gr.refl w).alloc _).alloc _).alloc _)).mono ?_); rintro r w1 ⟨rfl, g1⟩; clear tok; have q0 := g1.keep TB'.out.1.1.2.2.2.1; have q1 := g1.keep TB'.out.1.1.2.2.2.2.1; have q2 := g1.keep TB'.out.1.1.2.2.2.2.2) | (go_at_call 25; (with_reducible refine (R2.out _ ?gg).mono ?_); (case gg => exact ((((Gr.refl w).alloc _).alloc _).alloc _).trans g1); rintro r w2 ⟨rfl, g2⟩; clear q0 q1 q2))
  have GA := ((Gr.refl (((w.alloc (.cells #[.bool s, .slice ad1 n1 c1, .int .i64 e] 24)).alloc (.cells #[.bool t, .slice ad2 n2 c2, .int .i64 f] 24)).alloc (.cells #[.bool false, .slice none 0 0, .int .i64 0] 24))).trans g1).trans g2
  have kb := GA.keepH TB'.out.2.1
  have hS0 : (w2.drew.cell? ⟨w.heap.size, 0, none⟩ = some (.bool s) ∧ w2.drew.cell? ⟨w.heap.size, 1, none⟩ = some (.slice ad1 n1 c1) ∧ w2.drew.cell? ⟨w.heap.size, 2, none⟩ = some (.int .i64 e) ∧ w2.drew.cell? ⟨w.heap.size + 1, 0, none⟩ = some (.bool t) ∧ w2.drew.cell? ⟨w.heap.size + 1, 1, none⟩ = some (.slice ad2 n2 c2) ∧ w2.drew.cell? ⟨w.heap.size + 1, 2, none⟩ = some (.int .i64 f)) ∧ (w2.drew.cell? ⟨w.heap.size + 2, 0, none⟩ = some (cellV w2.drew (w.heap.size + 2) 0) ∧ w2.drew.cell? ⟨w.heap.size + 2, 1, none⟩ = some (cellV w2.drew (w.heap.size + 2) 1) ∧ w2.drew.cell? ⟨w.heap.size + 2, 2, none⟩ = some (cellV w2.drew (w.heap.size + 2) 2) ∧ w2.drew.frozen? ⟨w.heap.size + 2, 0, none⟩ = false ∧ w2.drew.frozen? ⟨w.heap.size + 2, 1, none⟩ = false ∧ w2.drew.frozen? ⟨w.heap.size + 2, 2, none⟩ = false) ∧ Gr w w2.drew := by
    have c6 := keep6 GA TB'.out.1
    have cz := cells_ofT kb
    have co := open_ofT kb
    exact ⟨c6.1, ⟨cellV_some cz.1, cellV_some cz.2.1, cellV_some cz.2.2, co.1, co.2.1, co.2.2⟩, (TB'.out.2.2.trans GA).drew⟩
  have HO : Hid (w2.drew.heap[w.heap.size + 2]? = some (.cells #[.bool false, .slice none 0 0, .int .i64 0] 24)) := kb
  clear kb GA g1 g2 TB'
  go_region_held3 (fun w' => (w'.cell? ⟨w.heap.size, 0, none⟩ = some (.bool s) ∧ w'.cell? ⟨w.heap.size, 1, none⟩ = some (.slice ad1 n1 c1) ∧ w'.cell? ⟨w.heap.size, 2, none⟩ = some (.int .i64 e) ∧ w'.cell? ⟨w.heap.size + 1, 0, none⟩ = some (.bool t) ∧ w'.cell? ⟨w.heap.size + 1, 1, none⟩ = some (.slice ad2 n2 c2) ∧ w'.cell? ⟨w.heap.size + 1, 2, none⟩ = some (.int .i64 f)) ∧ (w'.cell? ⟨w.heap.size + 2, 0, none⟩ = some (cellV w' (w.heap.size + 2) 0) ∧ w'.cell? ⟨w.heap.size + 2, 1, none⟩ = some (cellV w' (w.heap.size + 2) 1) ∧ w'.cell? ⟨w.heap.size + 2, 2, none⟩ = some (cellV w' (w.heap.size + 2) 2) ∧ w'.frozen? ⟨w.heap.size + 2, 0, none⟩ = false ∧ w'.frozen? ⟨w.heap.size + 2, 1, none⟩ = false ∧ w'.frozen? ⟨w.heap.size + 2, 2, none⟩ = false) ∧ Gr w w') (first | (with_reducible assumption) | (apply keepG; (with_reducible assumption); (with_reducible assumption)) | (refine keepStG rfl ne1 ne2 le2 ?_; (with_reducible assumption))) (first | (go_at_call 28; (with_reducible refine (D1.out _ ?gg).mono ?_); (case gg => exact And.right (And.right ‹_ ∧ _ ∧ Gr w _›)); rintro r w3 ⟨a3, m3, k3, rfl, hl3, g3⟩) | (go_at_call 28; (with_reducible refine (D2.out _ ?gg).mono ?_); (case gg => exact And.right (And.right ‹_ ∧ _ ∧ Gr w _›)); rintro r w4 ⟨a4, m4, k4, rfl, hl4, g4⟩) | (go_at_call 34; obtain ⟨neg, hneg⟩ : ∃ neg, neg = (s != t) := ⟨_, rfl⟩; obtain ⟨m, hm⟩ : ∃ m, m = x * y := ⟨_, rfl⟩; obtain ⟨g, hgd⟩ : ∃ g, g = e + f := ⟨_, rfl⟩; have PL := times43 s t a3 a4 m3 m4 k3 k4 x y e f _ (hl3.gr g4) hl4 (by omega) (by omega) (by omega) (by omega) (by omega) (by omega); rw [← hneg, ← hm, ← hgd] at PL; refine PL.mono ?_; have HW : Hid (0 ≤ g + KK ∧ sv KK neg m g = sv KK (s != t) (x * y) (e + f)) := ⟨by omega, by rw [hneg, hm, hgd]⟩; have hb5 : bl m ≤ 34359738368 := (by rw [hm]; have := bl_mul x y; omega); have gl : -1000000000000 ≤ g := (by omega); have gh : g ≤ 1000000000000 := (by omega); clear PL hneg hm hgd; rintro r w5 ⟨a5, m5, k5, rfl, hl5, g5⟩) | (go_at_call 26; (with_reducible refine (told26f neg a5 m5 k5 m g _ hl5 hb5 gl gh).mono ?_); rintro r w6 ⟨za, zb, zc, zd, zf, zg, rfl, hS, g6⟩))
  have hS4 := keepG g6 (keepG g5 (keepG g4 (keepG g3 hS0)))
  have k0 := hS4.2.1.1
  have k1 := hS4.2.1.2.1
  have k2 := hS4.2.1.2.2.1
  have hb1 : w6.heap[w.heap.size + 2]? = some (.cells #[.bool false, .slice none 0 0, .int .i64 0] 24) := g6.keepH (g5.keepH (g4.keepH (g3.keepH HO.out)))
  have hG := (((hS4.2.2.setCell (p := ⟨w.heap.size + 2, 0, none⟩) le2 (.bool za)).setCell (p := ⟨w.heap.size + 2, 1, none⟩) le2 (.slice zb zc zd)).setCell (p := ⟨w.heap.size + 2, 2, none⟩) le2 (.int .i64 zf))
  have HS3 := hS.out.set3 hb1 (.bool za) (.slice zb zc zd) (.int .i64 zf)
  clear hS0 hS4 hb1 HO
  go_wp2
  refine bodyPost_ret (v := .tuple #[.agg #[.bool za, .slice zb zc zd, .int .i64 zf], .int .i64 zg]) ?_ rfl ⟨⟨neg, m, g, HW.out.1, HW.out.2, HS3⟩, hG⟩
  simp [results, Tryz.results12, go_sem, k0, k1, k2]
end Go.Proofs.YtlooaoijacfcfaaGreatDoor
