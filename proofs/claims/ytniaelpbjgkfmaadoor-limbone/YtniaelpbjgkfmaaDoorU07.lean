import Derived.Test.YtniaelpbjgkfmaaDoorU06
namespace Go.Proofs.YtniaelpbjgkfmaaDoor
open Go.RowKit
set_option linter.unusedVariables false

theorem iv_val {w : World} {s : Bool} {ad : Option Addr} {n cap : Nat} {X : Int} (h : Wh w s ad n cap X) : iv s X.natAbs = X := h.val.symm
theorem boxes2 (w : World) (s t : Bool) (ad1 ad2 : Option Addr) (n1 n2 c1 c2 : Nat) : ((((w.alloc (.cells #[.bool s, .slice ad1 n1 c1] 24)).alloc (.cells #[.bool t, .slice ad2 n2 c2] 24)).alloc (.cells #[.bool false, .slice none 0 0] 24)).cell? ⟨w.heap.size, 0, none⟩ = some (.bool s) ∧ (((w.alloc (.cells #[.bool s, .slice ad1 n1 c1] 24)).alloc (.cells #[.bool t, .slice ad2 n2 c2] 24)).alloc (.cells #[.bool false, .slice none 0 0] 24)).cell? ⟨w.heap.size, 1, none⟩ = some (.slice ad1 n1 c1) ∧ (((w.alloc (.cells #[.bool s, .slice ad1 n1 c1] 24)).alloc (.cells #[.bool t, .slice ad2 n2 c2] 24)).alloc (.cells #[.bool false, .slice none 0 0] 24)).cell? ⟨w.heap.size + 1, 0, none⟩ = some (.bool t) ∧ (((w.alloc (.cells #[.bool s, .slice ad1 n1 c1] 24)).alloc (.cells #[.bool t, .slice ad2 n2 c2] 24)).alloc (.cells #[.bool false, .slice none 0 0] 24)).cell? ⟨w.heap.size + 1, 1, none⟩ = some (.slice ad2 n2 c2)) ∧ ((((w.alloc (.cells #[.bool s, .slice ad1 n1 c1] 24)).alloc (.cells #[.bool t, .slice ad2 n2 c2] 24)).alloc (.cells #[.bool false, .slice none 0 0] 24)).cell? ⟨w.heap.size + 1 + 1, 0, none⟩ = some (cellV (((w.alloc (.cells #[.bool s, .slice ad1 n1 c1] 24)).alloc (.cells #[.bool t, .slice ad2 n2 c2] 24)).alloc (.cells #[.bool false, .slice none 0 0] 24)) (w.heap.size + 1 + 1) 0) ∧ (((w.alloc (.cells #[.bool s, .slice ad1 n1 c1] 24)).alloc (.cells #[.bool t, .slice ad2 n2 c2] 24)).alloc (.cells #[.bool false, .slice none 0 0] 24)).cell? ⟨w.heap.size + 1 + 1, 1, none⟩ = some (cellV (((w.alloc (.cells #[.bool s, .slice ad1 n1 c1] 24)).alloc (.cells #[.bool t, .slice ad2 n2 c2] 24)).alloc (.cells #[.bool false, .slice none 0 0] 24)) (w.heap.size + 1 + 1) 1) ∧ (((w.alloc (.cells #[.bool s, .slice ad1 n1 c1] 24)).alloc (.cells #[.bool t, .slice ad2 n2 c2] 24)).alloc (.cells #[.bool false, .slice none 0 0] 24)).frozen? ⟨w.heap.size + 1 + 1, 0, none⟩ = false ∧ (((w.alloc (.cells #[.bool s, .slice ad1 n1 c1] 24)).alloc (.cells #[.bool t, .slice ad2 n2 c2] 24)).alloc (.cells #[.bool false, .slice none 0 0] 24)).frozen? ⟨w.heap.size + 1 + 1, 1, none⟩ = false) ∧ Gr w (((w.alloc (.cells #[.bool s, .slice ad1 n1 c1] 24)).alloc (.cells #[.bool t, .slice ad2 n2 c2] 24)).alloc (.cells #[.bool false, .slice none 0 0] 24)) := by
  have B3 := blk3 w (.cells #[.bool s, .slice ad1 n1 c1] 24) (.cells #[.bool t, .slice ad2 n2 c2] 24) (.cells #[.bool false, .slice none 0 0] 24)
  obtain ⟨x0, x1⟩ := bx2 B3.1
  obtain ⟨y0, y1⟩ := bx2 B3.2.1
  obtain ⟨z0, z1, z2, z3⟩ := Out2.of B3.2.2
  exact ⟨⟨x0, x1, y0, y1⟩, ⟨cellV_some z0, cellV_some z1, z2, z3⟩, (((Gr.refl w).alloc _).alloc _).alloc _⟩

set_option maxHeartbeats 1600000 in
theorem addL (s t : Bool) (ad1 ad2 : Option Addr) (n1 n2 c1 c2 : Nat) (X Y : Int) (w : World) (hx : Wh w s ad1 n1 c1 X) (hy : Wh w t ad2 n2 c2 Y) :
    Calls Tryd.prog 12 #[.agg #[.bool s, .slice ad1 n1 c1], .agg #[.bool t, .slice ad2 n2 c2]] w fun r w' => ∃ a b c d e, r = .returned (.tuple #[.agg #[.bool a, .slice b c d], .int .i64 e]) ∧ Hid (Tol w.heap.size w' a b c d e (X + Y)) ∧ Gr w w' := by
  have RA : Hid (∀ w1, Gr w w1 → Calls Tryd.prog 21 #[.agg #[.bool s, .slice ad1 n1 c1]] w1 fun r w' => r = .returned (.bool true) ∧ Gr w1 w') := fun w1 g => by
    obtain ⟨xs, rx, dx, hR⟩ := hx.right
    have := rightL s ad1 n1 c1 xs w1 (rx.gr g)
    rw [rightN_t hR] at this
    exact this
  have RB : Hid (∀ w1, Gr w w1 → Calls Tryd.prog 21 #[.agg #[.bool t, .slice ad2 n2 c2]] w1 fun r w' => r = .returned (.bool true) ∧ Gr w1 w') := fun w1 g => by
    obtain ⟨xs, rx, dx, hR⟩ := hy.right
    have := rightL t ad2 n2 c2 xs w1 (rx.gr g)
    rw [rightN_t hR] at this
    exact this
  have SU : Hid (∀ w1, Gr w w1 → Calls Tryd.prog 37 #[.agg #[.bool s, .slice ad1 n1 c1], .agg #[.bool t, .slice ad2 n2 c2]] w1 fun r w' => ∃ a b c d e, r = .returned (.tuple #[.agg #[.bool a, .slice b c d], .int .i64 e]) ∧ Hid (Tol w.heap.size w' a b c d e (X + Y)) ∧ Gr w1 w') := fun w1 g => by
    refine (sumL s t ad1 ad2 n1 n2 c1 c2 X.natAbs Y.natAbs w1 (hx.lim.gr g) (hy.lim.gr g) hx.le hy.le).mono ?_
    rintro r w' ⟨a, b, c, d, e, h1, h2, h3⟩
    refine ⟨a, b, c, d, e, h1, ?_, h3⟩
    have := h2.out.low g.size
    rw [iv_val hx, iv_val hy] at this
    exact this
  clear hx hy
  have GA : Gr w (((w.alloc (.cells #[.bool s, .slice ad1 n1 c1] 24)).alloc (.cells #[.bool t, .slice ad2 n2 c2] 24)).alloc (.cells #[.bool false, .slice none 0 0] 24)) := (((Gr.refl w).alloc _).alloc _).alloc _
  have S0 : Hid _ := boxes2 w s t ad1 ad2 n1 n2 c1 c2
  have HO : Hid _ := (blk3 w (.cells #[.bool s, .slice ad1 n1 c1] 24) (.cells #[.bool t, .slice ad2 n2 c2] 24) (.cells #[.bool false, .slice none 0 0] 24)).2.2
  have tok0 : True := trivial
  go_enter Tryd.func12, Tryd.ntmps12
  go_wp2_with (first | (go_at_call 21; have _t := tok0; (with_reducible refine (RA.out _ GA).mono ?_); rintro r w1 ⟨rfl, g1⟩; clear tok0; have S1 := keepL4 g1 S0.out; have x0 := S1.1.1; have x1 := S1.1.2.1; have y0 := S1.1.2.2.1; have y1 := S1.1.2.2.2; have G1 := S1.2.2) | (go_at_call 21; (with_reducible refine (RB.out _ G1).mono ?_); rintro r w2 ⟨rfl, g2⟩; have S2 := keepL4 g2 S1; clear x0 x1 y0 y1; have x0 := S2.1.1; have x1 := S2.1.2.1; have y0 := S2.1.2.2.1; have y1 := S2.1.2.2.2; have G2 := S2.2.2) | (go_at_call 37; (with_reducible refine (SU.out _ G2).mono ?_); rintro r w3 ⟨a6, b6, c6, d6, e6, rfl, T6, g3⟩; have hb6 := keepO g3 (keepO g2 (keepO g1 HO.out)); obtain ⟨k0, k1, k2, k3⟩ := Out2.of hb6; have G3 := G2.trans g3; clear S1 S2 x0 x1 y0 y1 G1))
  refine bodyPost_ret (v := .tuple #[.agg #[.bool a6, .slice b6 c6 d6], .int .i64 e6]) ?_ rfl ⟨a6, b6, c6, d6, e6, rfl, T6.out.set2 hb6 _ _ (by decide), (G3.setCell (p := ⟨w.heap.size + 1 + 1, 0, none⟩) (by show _ ≤ w.heap.size + 1 + 1; omega) _).setCell (p := ⟨w.heap.size + 1 + 1, 1, none⟩) (by show _ ≤ w.heap.size + 1 + 1; omega) _⟩
  simp [results, Tryd.results12, go_sem, k0, k1]

theorem boxes1 (w : World) (s : Bool) (ad : Option Addr) (n cap : Nat) : (((w.alloc (.cells #[.bool s, .slice ad n cap] 24)).alloc (.cells #[.bool false, .slice none 0 0] 24)).cell? ⟨w.heap.size, 0, none⟩ = some (.bool s) ∧ ((w.alloc (.cells #[.bool s, .slice ad n cap] 24)).alloc (.cells #[.bool false, .slice none 0 0] 24)).cell? ⟨w.heap.size, 1, none⟩ = some (.slice ad n cap)) ∧ (((w.alloc (.cells #[.bool s, .slice ad n cap] 24)).alloc (.cells #[.bool false, .slice none 0 0] 24)).cell? ⟨w.heap.size + 1, 0, none⟩ = some (cellV ((w.alloc (.cells #[.bool s, .slice ad n cap] 24)).alloc (.cells #[.bool false, .slice none 0 0] 24)) (w.heap.size + 1) 0) ∧ ((w.alloc (.cells #[.bool s, .slice ad n cap] 24)).alloc (.cells #[.bool false, .slice none 0 0] 24)).cell? ⟨w.heap.size + 1, 1, none⟩ = some (cellV ((w.alloc (.cells #[.bool s, .slice ad n cap] 24)).alloc (.cells #[.bool false, .slice none 0 0] 24)) (w.heap.size + 1) 1) ∧ ((w.alloc (.cells #[.bool s, .slice ad n cap] 24)).alloc (.cells #[.bool false, .slice none 0 0] 24)).frozen? ⟨w.heap.size + 1, 0, none⟩ = false ∧ ((w.alloc (.cells #[.bool s, .slice ad n cap] 24)).alloc (.cells #[.bool false, .slice none 0 0] 24)).frozen? ⟨w.heap.size + 1, 1, none⟩ = false) ∧ Gr w ((w.alloc (.cells #[.bool s, .slice ad n cap] 24)).alloc (.cells #[.bool false, .slice none 0 0] 24)) := by
  have B3 := blk2 w (.cells #[.bool s, .slice ad n cap] 24) (.cells #[.bool false, .slice none 0 0] 24)
  obtain ⟨x0, x1⟩ := bx2 B3.1
  obtain ⟨z0, z1, z2, z3⟩ := Out2.of B3.2
  exact ⟨⟨x0, x1⟩, ⟨cellV_some z0, cellV_some z1, z2, z3⟩, ((Gr.refl w).alloc _).alloc _⟩
set_option maxHeartbeats 3200000 in
theorem negL (s : Bool) (ad : Option Addr) (n cap : Nat) (X : Int) (w : World) (hx : Wh w s ad n cap X) :
    Calls Tryd.prog 20 #[.agg #[.bool s, .slice ad n cap]] w fun r w' => ∃ a b c d e, r = .returned (.tuple #[.agg #[.bool a, .slice b c d], .int .i64 e]) ∧ Hid (Tol w.heap.size w' a b c d e (-X)) ∧ Gr w w' := by
  have RA : Hid (∀ w1, Gr w w1 → Calls Tryd.prog 21 #[.agg #[.bool s, .slice ad n cap]] w1 fun r w' => r = .returned (.bool true) ∧ Gr w1 w') := fun w1 g => by
    obtain ⟨xs, rx, dx, hR⟩ := hx.right
    have := rightL s ad n cap xs w1 (rx.gr g)
    rw [rightN_t hR] at this
    exact this
  have E : Hid (iv (!s) X.natAbs = -X) := by show _ = _; rw [iv_not, iv_val hx]
  obtain ⟨xs, rx, dx⟩ := hx.lim
  have hn : n ≤ 1099511627776 := Nat.le_trans hx.le (by omega)
  have HC : Hid (∀ w1, Gr w w1 → Calls Tryd.prog 46 #[.slice ad n cap] w1 fun e w' => ∃ b c, e = .returned (.slice b n c) ∧ Hid (w'.ownsRow w1.heap.size 26 1 (.slice b n c) n (u64s xs)) ∧ Gr w1 w') := fun w1 g => cloneL ad n cap xs w1 (rx.gr g) hn
  have LT : Hid (∀ x ∈ xs, x < 18446744073709551616) := dx.2.1
  have NV : Hid (nv 18446744073709551616 xs = X.natAbs) := dx.1
  clear hx rx dx
  have GA : Gr w ((w.alloc (.cells #[.bool s, .slice ad n cap] 24)).alloc (.cells #[.bool false, .slice none 0 0] 24)) := ((Gr.refl w).alloc _).alloc _
  have S0 : Hid _ := boxes1 w s ad n cap
  have HO : Hid _ := (blk2 w (.cells #[.bool s, .slice ad n cap] 24) (.cells #[.bool false, .slice none 0 0] 24)).2
  go_enter Tryd.func20, Tryd.ntmps20
  go_wp2_with (first | (go_at_call 21; (with_reducible refine (RA.out _ GA).mono ?_); rintro r w1 ⟨rfl, g1⟩))
  have S1 := keepL2 g1 S0.out
  have HO1 : Hid _ := keepO g1 HO.out
  have G1 := S1.2.2
  clear S0 HO g1 GA
  have S2 := keepL2 ((Gr.refl w1).drew) S1
  go_region_held3 (fun w' => (w'.cell? ⟨w.heap.size, 0, none⟩ = some (.bool s) ∧ w'.cell? ⟨w.heap.size, 1, none⟩ = some (.slice ad n cap)) ∧ (w'.cell? ⟨w.heap.size + 1, 0, none⟩ = some (cellV w' (w.heap.size + 1) 0) ∧ w'.cell? ⟨w.heap.size + 1, 1, none⟩ = some (cellV w' (w.heap.size + 1) 1) ∧ w'.frozen? ⟨w.heap.size + 1, 0, none⟩ = false ∧ w'.frozen? ⟨w.heap.size + 1, 1, none⟩ = false) ∧ Gr w w') (first | (with_reducible assumption) | (apply keepL2; (with_reducible assumption); (with_reducible assumption)) | (refine keepS2 (by omega) (by omega) (by omega) ?_; (with_reducible assumption))) (first | (go_at_call 46; (with_reducible refine (HC.out _ ?gg).mono ?_); (case gg => exact And.right (And.right ‹_ ∧ _ ∧ Gr w _›)); rintro e w5 ⟨b5, c5, rfl, own5, gr5⟩) | (go_at_call 39; (with_reducible refine (settleL (!s) _ n c5 _ _ xs _ own5.out LT.out NV.out hn).mono ?_); rintro e w2 ⟨a6, b6, c6, d6, e6, rfl, T6, gr6⟩))
  have hb6 : w2.heap[w.heap.size + 1]? = some (.cells #[.bool false, .slice none 0 0] 24) := keepO gr6 (keepO gr5 HO1.out)
  obtain ⟨k0, k1, k2, k3⟩ := Out2.of hb6
  have GF : Gr w w2 := ((G1.trans ((Gr.refl w1).drew)).trans gr5).trans gr6
  have T7 := (T6.out.low (show w.heap.size ≤ _ from G1.size)).set2 hb6 (.bool a6) (.slice b6 c6 d6) (by decide)
  rw [E.out] at T7
  have T8 : Hid _ := T7
  have hG : Hid (Gr w ((w2.setCell ⟨w.heap.size + 1, 0, none⟩ (.bool a6)).setCell ⟨w.heap.size + 1, 1, none⟩ (.slice b6 c6 d6))) := (GF.setCell (p := ⟨w.heap.size + 1, 0, none⟩) (by show _ ≤ w.heap.size + 1; omega) _).setCell (p := ⟨w.heap.size + 1, 1, none⟩) (by show _ ≤ w.heap.size + 1; omega) _
  clear S1 S2 hb6 T6 T7 GF gr6 gr5 own5 HO1
  go_wp2
  refine bodyPost_ret (v := .tuple #[.agg #[.bool a6, .slice b6 c6 d6], .int .i64 e6]) ?_ rfl ⟨a6, b6, c6, d6, e6, rfl, T8.out, hG.out⟩
  simp [results, Tryd.results20, go_sem, k0, k1]
theorem bitsL (s : Bool) (ad : Option Addr) (n cap : Nat) (X : Int) (w : World) (hx : Wh w s ad n cap X) :
    Calls Tryd.prog 18 #[.agg #[.bool s, .slice ad n cap]] w fun r w' => r = .returned (.tuple #[.int .i64 (bl X.natAbs : Int), .int .i64 0]) ∧ Gr w w' := by
  have RA : Hid (∀ w1, Gr w w1 → Calls Tryd.prog 21 #[.agg #[.bool s, .slice ad n cap]] w1 fun r w' => r = .returned (.bool true) ∧ Gr w1 w') := fun w1 g => by
    obtain ⟨xs, rx, dx, hR⟩ := hx.right
    have := rightL s ad n cap xs w1 (rx.gr g)
    rw [rightN_t hR] at this
    exact this
  have HL : Hid (∀ w1, Gr w w1 → Calls Tryd.prog 40 #[.slice ad n cap] w1 fun r w' => r = .returned (.int .i64 (bl X.natAbs : Int)) ∧ Gr w1 w') := fun w1 g => bitLengthL ad n cap _ w1 (hx.lim.gr g) (by have := hx.le; omega)
  clear hx
  have GA : Gr w (w.alloc (.cells #[.bool s, .slice ad n cap] 24)) := (Gr.refl w).alloc _
  have B1 := bx2 (blk1 w (.cells #[.bool s, .slice ad n cap] 24))
  go_enter Tryd.func18, Tryd.ntmps18
  go_wp2_with (first | (go_at_call 21; (with_reducible refine (RA.out _ GA).mono ?_); rintro r w1 ⟨rfl, g1⟩; have x0 := keepG g1 B1.1; have x1 := keepG g1 B1.2) | (go_at_call 40; (with_reducible refine (HL.out _ (GA.trans g1)).mono ?_); rintro r w2 ⟨rfl, g2⟩))
  go_ret2
  exact ⟨rfl, (GA.trans g1).trans g2⟩
theorem signOfL (s : Bool) (ad : Option Addr) (n cap : Nat) (w : World) : Calls Tryd.prog 44 #[.agg #[.bool s, .slice ad n cap]] w fun r w' => r = .returned (.int .i64 (if s then -1 else 1)) ∧ Gr w w' := by
  cases s
  · go_enter Tryd.func44, Tryd.ntmps44
    go_wp2
    go_ret
    exact ⟨rfl, (Gr.refl w).alloc _⟩
  · go_enter Tryd.func44, Tryd.ntmps44
    go_wp2
    go_ret
    exact ⟨rfl, (Gr.refl w).alloc _⟩
end Go.Proofs.YtniaelpbjgkfmaaDoor
namespace Go.Proofs.YtniaelpbjgkfmaaDoor
open Go.RowKit
set_option linter.unusedVariables false

/-! limb: Cmp, Of, Small -/
theorem keepC4 {w wo wn : World} {b0 b1 b2 b3 o0 o1 o2 o3 : Nat} {v0 v1 v2 v3 : Value} (g : Gr wo wn) (h : (wo.cell? ⟨b0, o0, none⟩ = some v0 ∧ wo.cell? ⟨b1, o1, none⟩ = some v1 ∧ wo.cell? ⟨b2, o2, none⟩ = some v2 ∧ wo.cell? ⟨b3, o3, none⟩ = some v3) ∧ Gr w wo) : (wn.cell? ⟨b0, o0, none⟩ = some v0 ∧ wn.cell? ⟨b1, o1, none⟩ = some v1 ∧ wn.cell? ⟨b2, o2, none⟩ = some v2 ∧ wn.cell? ⟨b3, o3, none⟩ = some v3) ∧ Gr w wn :=
  ⟨⟨keepG g h.1.1, keepG g h.1.2.1, keepG g h.1.2.2.1, keepG g h.1.2.2.2⟩, h.2.trans g⟩
theorem sg_diff {w : World} {s t : Bool} {ad1 ad2 : Option Addr} {n1 n2 c1 c2 : Nat} {X Y : Int} (hx : Wh w s ad1 n1 c1 X) (hy : Wh w t ad2 n2 c2 Y) (h : (s == t) = false) : (if s then -1 else 1) = sg (X - Y) := by
  have h1 := hx.neg_iff
  have h2 := hy.neg_iff
  cases s <;> cases t <;> simp at h h1 h2 ⊢
  · rw [sg_pos (by omega)]
  · rw [sg_neg (by omega)]
theorem sg_same {w : World} {s t : Bool} {ad1 ad2 : Option Addr} {n1 n2 c1 c2 : Nat} {X Y : Int} (hx : Wh w s ad1 n1 c1 X) (hy : Wh w t ad2 n2 c2 Y) (h : (s == t) = true) : (if s then -1 else 1) * cmpI (X.natAbs : Int) (Y.natAbs : Int) = sg (X - Y) := by
  have h1 := hx.val
  have h2 := hy.val
  have hst : s = t := by simpa using h
  subst hst
  generalize X.natAbs = x at *
  generalize Y.natAbs = y at *
  rw [h1, h2]
  rcases Nat.lt_trichotomy x y with h | h | h
  · rw [cmpI_lt (by omega)]
    cases s
    · rw [iv_f, iv_f, sg_neg (by omega)]; rfl
    · rw [iv_t, iv_t, sg_pos (by omega)]; rfl
  · subst h
    rw [cmpI_eq rfl, Int.sub_self]; simp [sg_zero]
  · rw [cmpI_gt (by omega)]
    cases s
    · rw [iv_f, iv_f, sg_pos (by omega)]; rfl
    · rw [iv_t, iv_t, sg_neg (by omega)]; rfl
set_option maxHeartbeats 3200000 in
theorem cmpL (s t : Bool) (ad1 ad2 : Option Addr) (n1 n2 c1 c2 : Nat) (X Y : Int) (w : World) (hx : Wh w s ad1 n1 c1 X) (hy : Wh w t ad2 n2 c2 Y) :
    Calls Tryd.prog 19 #[.agg #[.bool s, .slice ad1 n1 c1], .agg #[.bool t, .slice ad2 n2 c2]] w fun r w' => r = .returned (.tuple #[.int .i64 (sg (X - Y)), .int .i64 0]) ∧ Gr w w' := by
  have RA : Hid (∀ w1, Gr w w1 → Calls Tryd.prog 21 #[.agg #[.bool s, .slice ad1 n1 c1]] w1 fun r w' => r = .returned (.bool true) ∧ Gr w1 w') := fun w1 g => by
    obtain ⟨xs, rx, dx, hR⟩ := hx.right
    have := rightL s ad1 n1 c1 xs w1 (rx.gr g)
    rw [rightN_t hR] at this
    exact this
  have RB : Hid (∀ w1, Gr w w1 → Calls Tryd.prog 21 #[.agg #[.bool t, .slice ad2 n2 c2]] w1 fun r w' => r = .returned (.bool true) ∧ Gr w1 w') := fun w1 g => by
    obtain ⟨xs, rx, dx, hR⟩ := hy.right
    have := rightL t ad2 n2 c2 xs w1 (rx.gr g)
    rw [rightN_t hR] at this
    exact this
  have HC : Hid (∀ w1, Gr w w1 → Calls Tryd.prog 45 #[.slice ad1 n1 c1, .slice ad2 n2 c2] w1 fun e w' => e = .returned (.int .i64 (cmpI (X.natAbs : Int) (Y.natAbs : Int))) ∧ Gr w1 w') := fun w1 g => compareL ad1 ad2 n1 n2 c1 c2 _ _ w1 (hx.lim.gr g) (hy.lim.gr g) (by have := hx.le; omega) (by have := hy.le; omega)
  have GA : Gr w ((w.alloc (.cells #[.bool s, .slice ad1 n1 c1] 24)).alloc (.cells #[.bool t, .slice ad2 n2 c2] 24)) := ((Gr.refl w).alloc _).alloc _
  have B2 := blk2 w (.cells #[.bool s, .slice ad1 n1 c1] 24) (.cells #[.bool t, .slice ad2 n2 c2] 24)
  have S0 : Hid ((((w.alloc (.cells #[.bool s, .slice ad1 n1 c1] 24)).alloc (.cells #[.bool t, .slice ad2 n2 c2] 24)).cell? ⟨w.heap.size, 0, none⟩ = some (.bool s) ∧ ((w.alloc (.cells #[.bool s, .slice ad1 n1 c1] 24)).alloc (.cells #[.bool t, .slice ad2 n2 c2] 24)).cell? ⟨w.heap.size, 1, none⟩ = some (.slice ad1 n1 c1) ∧ ((w.alloc (.cells #[.bool s, .slice ad1 n1 c1] 24)).alloc (.cells #[.bool t, .slice ad2 n2 c2] 24)).cell? ⟨w.heap.size + 1, 0, none⟩ = some (.bool t) ∧ ((w.alloc (.cells #[.bool s, .slice ad1 n1 c1] 24)).alloc (.cells #[.bool t, .slice ad2 n2 c2] 24)).cell? ⟨w.heap.size + 1, 1, none⟩ = some (.slice ad2 n2 c2)) ∧ Gr w ((w.alloc (.cells #[.bool s, .slice ad1 n1 c1] 24)).alloc (.cells #[.bool t, .slice ad2 n2 c2] 24))) := ⟨⟨(bx2 B2.1).1, (bx2 B2.1).2, (bx2 B2.2).1, (bx2 B2.2).2⟩, GA⟩
  clear B2
  have tok0 : True := trivial
  by_cases hst : (s == t) = false
  · have E := sg_diff hx hy hst
    clear hx hy
    rw [← E]
    clear E
    have SG : Hid (∀ w1, Calls Tryd.prog 44 #[.agg #[.bool s, .slice ad1 n1 c1]] w1 fun r w' => r = .returned (.int .i64 (if s then -1 else 1)) ∧ Gr w1 w') := fun w1 => signOfL s ad1 n1 c1 w1
    generalize (if s then (-1 : Int) else 1) = sgn at *
    go_enter Tryd.func19, Tryd.ntmps19
    go_wp2_with (first | (go_at_call 21; have _t := tok0; (with_reducible refine (RA.out _ GA).mono ?_); rintro r w1 ⟨rfl, g1⟩; clear tok0; have S1 := keepC4 g1 S0.out; have x0 := S1.1.1; have x1 := S1.1.2.1; have y0 := S1.1.2.2.1; have y1 := S1.1.2.2.2; have G1 := S1.2) | (go_at_call 21; (with_reducible refine (RB.out _ G1).mono ?_); rintro r w2 ⟨rfl, g2⟩; have S2 := keepC4 g2 S1; clear x0 x1 y0 y1; have x0 := S2.1.1; have x1 := S2.1.2.1; have y0 := S2.1.2.2.1; have y1 := S2.1.2.2.2; have G2 := S2.2) | (go_at_call 44; (with_reducible refine (SG.out _).mono ?_); rintro r w3 ⟨rfl, g3⟩))
    go_ret2
    exact ⟨rfl, G2.trans g3⟩
  · have hst' : (s == t) = true := by simpa using hst
    have E := sg_same hx hy hst'
    have hcb : -1 ≤ cmpI (X.natAbs : Int) (Y.natAbs : Int) ∧ cmpI (X.natAbs : Int) (Y.natAbs : Int) ≤ 1 := by unfold cmpI; split <;> (try split) <;> omega
    have hsb : -1 ≤ (if s then (-1 : Int) else 1) ∧ (if s then (-1 : Int) else 1) ≤ 1 := by cases s <;> simp
    clear hx hy hst
    have SG : Hid (∀ w1, Calls Tryd.prog 44 #[.agg #[.bool s, .slice ad1 n1 c1]] w1 fun r w' => r = .returned (.int .i64 (if s then -1 else 1)) ∧ Gr w1 w') := fun w1 => signOfL s ad1 n1 c1 w1
    have EW : Hid (IntKind.i64.wrap ((if s then (-1 : Int) else 1) * cmpI (X.natAbs : Int) (Y.natAbs : Int)) = sg (X - Y)) := by
      show _ = _
      rw [E]
      have : -1 ≤ sg (X - Y) ∧ sg (X - Y) ≤ 1 := by unfold sg; split <;> (try split) <;> omega
      rw [IntKind.wrap_i64]; omega
    clear E
    generalize (if s then (-1 : Int) else 1) = sgn at *
    generalize cmpI (X.natAbs : Int) (Y.natAbs : Int) = cm at *
    go_enter Tryd.func19, Tryd.ntmps19
    go_wp2_with (first | (go_at_call 21; have _t := tok0; (with_reducible refine (RA.out _ GA).mono ?_); rintro r w1 ⟨rfl, g1⟩; clear tok0; have S1 := keepC4 g1 S0.out; have x0 := S1.1.1; have x1 := S1.1.2.1; have y0 := S1.1.2.2.1; have y1 := S1.1.2.2.2; have G1 := S1.2) | (go_at_call 21; (with_reducible refine (RB.out _ G1).mono ?_); rintro r w2 ⟨rfl, g2⟩; have S2 := keepC4 g2 S1; clear x0 x1 y0 y1; have x0 := S2.1.1; have x1 := S2.1.2.1; have y0 := S2.1.2.2.1; have y1 := S2.1.2.2.2; have G2 := S2.2))
    have S3 := keepC4 ((Gr.refl w2).drew) S2
    clear x0 x1 y0 y1 S0 S1 S2 g1 g2 G1
    go_region_held3 (fun w' => (w'.cell? ⟨w.heap.size, 0, none⟩ = some (.bool s) ∧ w'.cell? ⟨w.heap.size, 1, none⟩ = some (.slice ad1 n1 c1) ∧ w'.cell? ⟨w.heap.size + 1, 0, none⟩ = some (.bool t) ∧ w'.cell? ⟨w.heap.size + 1, 1, none⟩ = some (.slice ad2 n2 c2)) ∧ Gr w w') (first | (with_reducible assumption) | (apply keepC4; (with_reducible assumption); (with_reducible assumption))) (first | (go_at_call 44; (with_reducible refine (SG.out _).mono ?_); rintro r w4 ⟨rfl, g4⟩) | (go_at_call 45; (with_reducible refine (HC.out _ ?gg).mono ?_); (case gg => exact And.right ‹_ ∧ Gr w _›); rintro r w5 ⟨rfl, g5⟩))
    rw [EW.out]
    go_wp2
    go_ret2
    exact ⟨rfl, (S3.2.trans g4).trans g5⟩
theorem own1 (w : World) (v : Nat) : (w.alloc (.cells #[.int .u64 (v : Int)] 26)).ownsRow w.heap.size 26 1 (.slice (some ⟨w.heap.size, 0, none⟩) 1 1) 1 (u64s [v]) :=
  ⟨by simp [u64s], .inr ⟨w.heap.size, 1, #[.int .u64 (v : Int)], rfl, Nat.le_refl _, blk1 w _, Nat.le_refl _, by unfold maxLen; omega, rfl, by simp [u64s]⟩⟩
theorem at2 {wo : World} {b : Nat} {v0 v1 a0 a1 : Value} (h0 : wo.cell? ⟨b, 0, none⟩ = some a0) (h1 : wo.cell? ⟨b, 1, none⟩ = some a1) :
    ((wo.setCell ⟨b, 0, none⟩ v0).setCell ⟨b, 1, none⟩ v1).cell? ⟨b, 0, none⟩ = some v0 ∧ ((wo.setCell ⟨b, 0, none⟩ v0).setCell ⟨b, 1, none⟩ v1).cell? ⟨b, 1, none⟩ = some v1 := by
  have ne : ∀ i j : Nat, i ≠ j → (⟨b, i, none⟩ : Addr) ≠ ⟨b, j, none⟩ := fun i j hij e => hij (by injection e)
  refine ⟨?_, ?_⟩
  · rw [World.cell?_setCell_other _ _ _ _ (ne 1 0 (by omega))]
    exact World.cell?_setCell_same _ _ _ h0
  · refine World.cell?_setCell_same _ _ _ (u := a1) ?_
    rw [World.cell?_setCell_other _ _ _ _ (ne 0 1 (by omega))]
    exact h1
theorem lt_top {x : Nat} (h : x < 18446744073709551616) : x < TopN := topN_bl.1 (by have := bl64 h; omega)
set_option maxHeartbeats 1600000 in
theorem ofL (n : Int) (h1 : -9223372036854775808 ≤ n) (h2 : n ≤ 9223372036854775807) (w : World) :
    Calls Tryd.prog 15 #[.int .i64 n] w fun r w' => ∃ a b c d, r = .returned (.agg #[.bool a, .slice b c d]) ∧ Hid (Wh w' a b c d n) ∧ Hid (Fresh w.heap.size w' b c d) ∧ Gr w w' := by
  have hv : n.natAbs < 18446744073709551616 := by omega
  have ST : Hid (∀ (q : Bool), iv q n.natAbs = n → ∀ w1 : World, Gr w w1 → Calls Tryd.prog 39 #[.bool q, .slice (some ⟨w1.heap.size, 0, none⟩) 1 1] (w1.alloc (.cells #[.int .u64 (n.natAbs : Int)] 26)) fun r w' => ∃ a b c d, r = .returned (.tuple #[.agg #[.bool a, .slice b c d], .int .i64 0]) ∧ Hid (Wh w' a b c d n) ∧ Hid (Fresh w.heap.size w' b c d) ∧ Gr w1 w') := fun q hq w1 g => by
    refine (settleL q _ 1 1 _ n.natAbs [n.natAbs] _ (own1 w1 n.natAbs) (by simpa using hv) (by simp [nv]) (by omega)).mono ?_
    rintro r w' ⟨a, b, c, d, e, k1, k2, k3⟩
    rw [hq] at k2
    obtain ⟨rfl, k4, k5⟩ := k2.out.fits (lt_top hv)
    exact ⟨a, b, c, d, k1, k4, k5.low g.size, ((Gr.refl w1).alloc _).trans k3⟩
  have B1 := blk1 w (.cells #[.bool false, .slice none 0 0] 24)
  have GA : Gr w (w.alloc (.cells #[.bool false, .slice none 0 0] 24)) := (Gr.refl w).alloc _
  have e0 : (w.alloc (.cells #[.bool false, .slice none 0 0] 24)).heap.size = w.heap.size + 1 := by simp
  by_cases hn : n < 0
  · have e1 : iv true n.natAbs = n := by rw [iv_t]; omega
    have e2 : IntKind.u64.wrap (-(IntKind.u64.wrap n)) = (n.natAbs : Int) := by rw [IntKind.wrap_u64, IntKind.wrap_u64]; omega
    have SX : Hid (Calls Tryd.prog 39 #[.bool true, .slice (some ⟨w.heap.size + 1, 0, none⟩) 1 1] ((w.alloc (.cells #[.bool false, .slice none 0 0] 24)).alloc (.cells #[.int .u64 (n.natAbs : Int)] 26)) fun r w' => ∃ a b c d, r = .returned (.tuple #[.agg #[.bool a, .slice b c d], .int .i64 0]) ∧ Hid (Wh w' a b c d n) ∧ Hid (Fresh w.heap.size w' b c d) ∧ Gr (w.alloc (.cells #[.bool false, .slice none 0 0] 24)) w') := by
      rw [← e0]
      exact ST.out true e1 _ GA
    clear ST e1
    have hW : Hid (n = n) := rfl
    generalize n.natAbs = m at *
    go_enter Tryd.func15, Tryd.ntmps15
    go_wp2_with (first | (go_at_call 39; (with_reducible refine Calls.mono SX.out ?_); rintro r w1 ⟨a, b, c, d, rfl, hw, hf, g1⟩; have hb := keepO g1 B1; obtain ⟨k0, k1, k2, k3⟩ := Out2.of hb; have hne := lt_of_get2 hb))
    have hQ := hf.out.ne hb (by decide)
    have z0 := keepG ((Gr.refl _).alloc (.cells #[.bool a, .slice b c d] 24)) (at2 (v0 := .bool a) (v1 := .slice b c d) k0 k1).1
    have z1 := keepG ((Gr.refl _).alloc (.cells #[.bool a, .slice b c d] 24)) (at2 (v0 := .bool a) (v1 := .slice b c d) k0 k1).2
    refine bodyPost_ret (v := .agg #[.bool a, .slice b c d]) ?_ rfl ⟨a, b, c, d, rfl, ((hw.out.far hQ _).far hQ _).gr ((Gr.refl _).alloc _), ((hf.out.far hQ _).far hQ _).gr ((Gr.refl _).alloc _), (((GA.trans g1).setCell (p := ⟨w.heap.size, 0, none⟩) (Nat.le_refl _) _).setCell (p := ⟨w.heap.size, 1, none⟩) (Nat.le_refl _) _).alloc _⟩
    simp [results, Tryd.results15, go_sem, z0, z1]
  · have e1 : iv false n.natAbs = n := by rw [iv_f]; omega
    have e2 : IntKind.u64.wrap n = (n.natAbs : Int) := by rw [IntKind.wrap_u64]; omega
    have e3 : n = (n.natAbs : Int) := by omega
    have SX : Hid (Calls Tryd.prog 39 #[.bool false, .slice (some ⟨w.heap.size + 1, 0, none⟩) 1 1] ((w.alloc (.cells #[.bool false, .slice none 0 0] 24)).alloc (.cells #[.int .u64 (n.natAbs : Int)] 26)) fun r w' => ∃ a b c d, r = .returned (.tuple #[.agg #[.bool a, .slice b c d], .int .i64 0]) ∧ Hid (Wh w' a b c d n) ∧ Hid (Fresh w.heap.size w' b c d) ∧ Gr (w.alloc (.cells #[.bool false, .slice none 0 0] 24)) w') := by
      rw [← e0]
      exact ST.out false e1 _ GA
    clear ST e1
    have hW : Hid (n = n) := rfl
    generalize n.natAbs = m at *
    subst e3
    go_enter Tryd.func15, Tryd.ntmps15
    go_wp2_with (first | (go_at_call 39; (with_reducible refine Calls.mono SX.out ?_); rintro r w1 ⟨a, b, c, d, rfl, hw, hf, g1⟩; have hb := keepO g1 B1; obtain ⟨k0, k1, k2, k3⟩ := Out2.of hb; have hne := lt_of_get2 hb))
    have hQ := hf.out.ne hb (by decide)
    have z0 := keepG ((Gr.refl _).alloc (.cells #[.bool a, .slice b c d] 24)) (at2 (v0 := .bool a) (v1 := .slice b c d) k0 k1).1
    have z1 := keepG ((Gr.refl _).alloc (.cells #[.bool a, .slice b c d] 24)) (at2 (v0 := .bool a) (v1 := .slice b c d) k0 k1).2
    refine bodyPost_ret (v := .agg #[.bool a, .slice b c d]) ?_ rfl ⟨a, b, c, d, rfl, ((hw.out.far hQ _).far hQ _).gr ((Gr.refl _).alloc _), ((hf.out.far hQ _).far hQ _).gr ((Gr.refl _).alloc _), (((GA.trans g1).setCell (p := ⟨w.heap.size, 0, none⟩) (Nat.le_refl _) _).setCell (p := ⟨w.heap.size, 1, none⟩) (Nat.le_refl _) _).alloc _⟩
    simp [results, Tryd.results15, go_sem, z0, z1]
end Go.Proofs.YtniaelpbjgkfmaaDoor
namespace Go.Proofs.YtniaelpbjgkfmaaDoor
open Go.RowKit
set_option linter.unusedVariables false

/-! limb: Small, Shift -/
def smB (X : Int) : Bool := decide (-9223372036854775808 ≤ X ∧ X ≤ 9223372036854775807)
def smI (X : Int) : Int := if smB X then X else 0
set_option maxHeartbeats 1600000 in
theorem smallL (s : Bool) (ad : Option Addr) (n cap : Nat) (X : Int) (w : World) (hx : Wh w s ad n cap X) :
    Calls Tryd.prog 11 #[.agg #[.bool s, .slice ad n cap]] w fun r w' => r = .returned (.tuple #[.int .i64 (smI X), .bool (smB X)]) ∧ Gr w w' := by
  have RA : Hid (∀ w1, Gr w w1 → Calls Tryd.prog 21 #[.agg #[.bool s, .slice ad n cap]] w1 fun r w' => r = .returned (.bool true) ∧ Gr w1 w') := fun w1 g => by
    obtain ⟨xs, rx, dx, hR⟩ := hx.right
    have := rightL s ad n cap xs w1 (rx.gr g)
    rw [rightN_t hR] at this
    exact this
  obtain ⟨xs, rx, dx⟩ := hx.lim
  have hval := hx.val
  have hz := hx.n0
  have hsg := hx.neg_iff
  have GA : Gr w (w.alloc (.cells #[.bool s, .slice ad n cap] 24)) := (Gr.refl w).alloc _
  have B1 := bx2 (blk1 w (.cells #[.bool s, .slice ad n cap] 24))
  have hlen := rx.len
  by_cases hn : (n : Int) ≤ 1
  · have CL0 : ∀ (q : Nat) (w1 : World), w1.cell? ⟨q, 0, none⟩ = some (.slice ad n cap) → Gr w w1 → Calls Tryd.prog 62 #[.int .i64 0, .pointer (some ⟨q, 0, none⟩)] w1 fun e w' => e = .returned (.int .u64 ((xs.getD 0 0 : Nat) : Int)) ∧ w' = w1 := fun q w1 h g => by
      have := limbAtL q ad n cap xs ((0 : Nat) : Int) w1 h (rx.gr g)
      rw [xa_nat] at this
      exact this
    have hv : xs.getD 0 0 = X.natAbs := by
      have := dx.digit 0
      rw [this, Nat.pow_zero, Nat.div_one, Nat.mod_eq_of_lt]
      have h1 := dx.upper
      rcases (show n = 0 ∨ n = 1 by omega) with h | h
      · rw [hlen, h] at h1; omega
      · rw [hlen, h] at h1; omega
    have hb : X.natAbs < 18446744073709551616 := by rw [← hv]; exact getD_lt (by omega) dx.2.1 0
    rw [hv] at CL0
    have CL : Hid (∀ (q : Nat) (w1 : World), w1.cell? ⟨q, 0, none⟩ = some (.slice ad n cap) → Gr w w1 → Calls Tryd.prog 62 #[.int .i64 0, .pointer (some ⟨q, 0, none⟩)] w1 fun e w' => e = .returned (.int .u64 (X.natAbs : Int)) ∧ w' = w1) := CL0
    clear CL0 rx dx hx hlen hz hv
    generalize X.natAbs = v at *
    cases s
    · rw [iv_f] at hval
      rw [← hval] at CL
      have hX0 : 0 ≤ X := by omega
      have hX1 : X < 18446744073709551616 := by omega
      clear hval hb
      by_cases h : X < 9223372036854775808
      · rw [show smB X = true from decide_eq_true (by omega), show smI X = X from if_pos (decide_eq_true (by omega))]
        have e1 : IntKind.i64.wrap X = X := by rw [IntKind.wrap_i64]; omega
        clear hsg
        go_enter Tryd.func11, Tryd.ntmps11
        go_wp2_with (first | (go_at_call 21; (with_reducible refine (RA.out _ GA).mono ?_); rintro r w1 ⟨rfl, g1⟩; have x0 := keepG g1 B1.1; have x1 := keepG g1 B1.2; have G1 := GA.trans g1) | (go_at_call 36; (with_reducible refine (limbsOfL _ _ _ _).mono ?_); rintro r w2 ⟨rfl, hb2, g2⟩; have y0 := keepG g2 x0; have y1 := keepG g2 x1) | (go_at_call 62; (with_reducible refine (CL.out _ _ hb2 (G1.trans g2)).mono ?_); rintro r w3 ⟨rfl, rfl⟩))
        go_ret2
        exact ⟨rfl, G1.trans g2⟩
      · rw [show smB X = false from decide_eq_false (by omega), show smI X = 0 from if_neg (by rw [show smB X = false from decide_eq_false (by omega)]; decide)]
        have h' : 9223372036854775808 ≤ X := by omega
        clear hsg
        go_enter Tryd.func11, Tryd.ntmps11
        go_wp2_with (first | (go_at_call 21; (with_reducible refine (RA.out _ GA).mono ?_); rintro r w1 ⟨rfl, g1⟩; have x0 := keepG g1 B1.1; have x1 := keepG g1 B1.2; have G1 := GA.trans g1) | (go_at_call 36; (with_reducible refine (limbsOfL _ _ _ _).mono ?_); rintro r w2 ⟨rfl, hb2, g2⟩; have y0 := keepG g2 x0; have y1 := keepG g2 x1) | (go_at_call 62; (with_reducible refine (CL.out _ _ hb2 (G1.trans g2)).mono ?_); rintro r w3 ⟨rfl, rfl⟩))
        go_ret2
        exact ⟨rfl, G1.trans g2⟩
    · rw [iv_t] at hval
      subst hval
      by_cases h : (v : Int) ≤ 9223372036854775808
      · rw [show smB (-(v : Int)) = true from decide_eq_true (by omega), show smI (-(v : Int)) = -(v : Int) from if_pos (decide_eq_true (by omega))]
        have e1 : IntKind.i64.wrap (IntKind.u64.wrap (-(v : Int))) = -(v : Int) := by rw [IntKind.wrap_i64, IntKind.wrap_u64]; omega
        clear hsg
        go_enter Tryd.func11, Tryd.ntmps11
        go_wp2_with (first | (go_at_call 21; (with_reducible refine (RA.out _ GA).mono ?_); rintro r w1 ⟨rfl, g1⟩; have x0 := keepG g1 B1.1; have x1 := keepG g1 B1.2; have G1 := GA.trans g1) | (go_at_call 36; (with_reducible refine (limbsOfL _ _ _ _).mono ?_); rintro r w2 ⟨rfl, hb2, g2⟩; have y0 := keepG g2 x0; have y1 := keepG g2 x1) | (go_at_call 62; (with_reducible refine (CL.out _ _ hb2 (G1.trans g2)).mono ?_); rintro r w3 ⟨rfl, rfl⟩))
        go_ret2
        exact ⟨rfl, G1.trans g2⟩
      · rw [show smB (-(v : Int)) = false from decide_eq_false (by omega), show smI (-(v : Int)) = 0 from if_neg (by rw [show smB (-(v : Int)) = false from decide_eq_false (by omega)]; decide)]
        have h' : 9223372036854775808 ≤ (v : Int) := by omega
        clear hsg
        go_enter Tryd.func11, Tryd.ntmps11
        go_wp2_with (first | (go_at_call 21; (with_reducible refine (RA.out _ GA).mono ?_); rintro r w1 ⟨rfl, g1⟩; have x0 := keepG g1 B1.1; have x1 := keepG g1 B1.2; have G1 := GA.trans g1) | (go_at_call 36; (with_reducible refine (limbsOfL _ _ _ _).mono ?_); rintro r w2 ⟨rfl, hb2, g2⟩; have y0 := keepG g2 x0; have y1 := keepG g2 x1) | (go_at_call 62; (with_reducible refine (CL.out _ _ hb2 (G1.trans g2)).mono ?_); rintro r w3 ⟨rfl, rfl⟩))
        go_ret2
        exact ⟨rfl, G1.trans g2⟩
  · have hn' : 1 < (n : Int) := by omega
    have hb : 18446744073709551616 ≤ X.natAbs := by
      have := dx.lower (k := n - 1) (by omega)
      have h2 : 18446744073709551616 ^ 1 ≤ 18446744073709551616 ^ (n - 1) := Nat.pow_le_pow_right (by omega) (by omega)
      omega
    have hf : smB X = false := decide_eq_false (by omega)
    rw [hf, show smI X = 0 from if_neg (by rw [hf]; decide)]
    clear hval hz hsg rx dx hx hb hf
    go_enter Tryd.func11, Tryd.ntmps11
    go_wp2_with (first | (go_at_call 21; (with_reducible refine (RA.out _ GA).mono ?_); rintro r w1 ⟨rfl, g1⟩; have x0 := keepG g1 B1.1; have x1 := keepG g1 B1.2; have G1 := GA.trans g1))
    go_ret2
    exact ⟨rfl, G1⟩
end Go.Proofs.YtniaelpbjgkfmaaDoor
