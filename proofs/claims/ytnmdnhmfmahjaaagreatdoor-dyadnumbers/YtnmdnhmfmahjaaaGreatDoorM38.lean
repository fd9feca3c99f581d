import Derived.Test.YtnmdnhmfmahjaaaGreatDoorM37
import Derived.Test.YtnmdnhmfmahjaaaGreatDoorM09
namespace Go.Proofs.YtnmdnhmfmahjaaaGreatDoor
open Go.RowKit
set_option linter.unusedVariables false

theorem own24 {w : World} {b : Nat} {a0 a1 a2 : Value} (h : w.heap[b]? = some (.cells #[a0, a1, a2] 24)) (v0 v1 v2 : Value) : (((w.setCell ⟨b, 0, none⟩ v0).setCell ⟨b, 1, none⟩ v1).setCell ⟨b, 2, none⟩ v2).heap[b]? = some (.cells #[v0, v1, v2] 24) := by
  simp only [World.setCell, Array.getElem?_modify, if_true, h, Option.map_some]
  rfl
theorem far24 {w : World} {B2 b : Nat} {o : Obj} (hne : b ≠ B2) (v0 v1 v2 : Value) (h : w.heap[b]? = some o) : (((w.setCell ⟨B2, 0, none⟩ v0).setCell ⟨B2, 1, none⟩ v1).setCell ⟨B2, 2, none⟩ v2).heap[b]? = some o := by
  simp only [World.setCell, Array.getElem?_modify, if_neg (Ne.symm hne)]
  exact h
theorem lt_alloc (w : World) (o : Obj) {k : Nat} (h : (w.alloc o).heap.size ≤ k) : w.heap.size < k := by
  have q : (w.alloc o).heap.size = w.heap.size + 1 := by simp
  omega
theorem bitsK (x : Nat) (w : World) : (callFunc 36 #[.float .f64 x]).run Tryz.prog w = .ok (.value (.int .u64 x)) w := by
  kernel_rfl
theorem sameFK (x : Nat) (w : World) : Calls Tryz.prog 9 #[.float .f64 x, .float .f64 x] w fun e w' => e = .returned (.bool true) ∧ w = w' := by
  have h1 := bitsK
  go_enter Tryz.func9, Tryz.ntmps9
  go_wp2
  go_ret
  exact ⟨rfl, rfl⟩
def IsB (r : Ending) : Prop := ∃ b, r = .returned (.bool b)
theorem IsB.mk (b : Bool) : IsB (.returned (.bool b)) := ⟨b, rfl⟩
set_option maxHeartbeats 2000000 in
theorem long13 (s : Bool) (ad : Option Addr) (n cap : Nat) (e last : Int) (w : World) :
    Calls Tryz.prog 13 #[.agg #[.bool s, .slice ad n cap, .int .i64 e], .int .i64 last] w fun r w' => IsB r ∧ Gr w w' := by
  have G0 : Gr w (w.alloc (.cells #[.bool s, .slice ad n cap, .int .i64 e] 24)) := (Gr.refl w).alloc _
  go_enter Tryz.func13, Tryz.ntmps13
  go_wp2
  all_goals
    go_ret
    exact ⟨IsB.mk _, G0⟩
set_option maxRecDepth 10000 in
set_option maxHeartbeats 8000000 in
theorem cuts3 (s1 : Bool) (a1 : Option Addr) (n1 c1 : Nat) (e1 last : Int) (xs1 : List Nat) (w : World) (r1 : Row w a1 n1 c1 xs1) (h1 : ∀ x ∈ xs1, x < 18446744073709551616) (hT : TabAt 1 Lib.deBruijn64tab w) :
    Calls Tryz.prog 3 #[.agg #[.bool s1, .slice a1 n1 c1, .int .i64 e1], .int .i64 last] w fun r w' => r = .returned (.bool true) ∧ Gr w w' := by
  obtain ⟨F, c, f1, f2⟩ := Fl.flboth s1 a1 n1 c1 e1 xs1 w r1 h1
  obtain ⟨SC0, XC0, EC0, GC0, ca0, cb0⟩ := both_cut s1 false a1 n1 c1 e1 last xs1 w r1 h1 hT
  obtain ⟨SC1, XC1, EC1, GC1, ca1, cb1⟩ := both_cut s1 true a1 n1 c1 e1 last xs1 w r1 h1 hT
  obtain ⟨SR0, XR0, ER0, GR0, ra0, rb0⟩ := both_root s1 false a1 n1 c1 e1 last xs1 w r1 h1 hT
  obtain ⟨SR1, XR1, ER1, GR1, ra1, rb1⟩ := both_root s1 true a1 n1 c1 e1 last xs1 w r1 h1 hT
  unfold Told at ca0 cb0 ca1 cb1 ra0 rb0 ra1 rb1
  have FA := hide f1
  have FB := hide f2
  have CA0 := hide ca0
  have CB0 := hide cb0
  have CA1 := hide ca1
  have CB1 := hide cb1
  have RA0 := hide ra0
  have RB0 := hide rb0
  have RA1 := hide ra1
  have RB1 := hide rb1
  have AW : Hid (∀ w1, Gr w w1 → Calls Tryz.prog 6 #[] w1 fun r w' => r = .returned (.bool true) ∧ Gr w1 w') := fun w1 g => awake7 w1 (tab_gr hT g)
  have GT : Hid (∀ w1, Calls Tryz.prog 5 #[.agg #[.bool s1, .slice a1 n1 c1, .int .i64 e1]] w1 fun r w' => r = .returned (.bool (greatB n1 e1)) ∧ Gr w1 w') := fun w1 => great4 s1 a1 n1 c1 e1 w1
  have SF : Hid (∀ w1, Calls Tryz.prog 9 #[.float .f64 F, .float .f64 F] w1 fun r w' => r = .returned (.bool true) ∧ w1 = w') := fun w1 => sameFK F w1
  have IS : Hid (∀ s ad1 ad2 n1 n2 c1 c2 e g X w1, Lim w1 ad1 n1 c1 18446744073709551616 X → Lim w1 ad2 n2 c2 18446744073709551616 X → Calls Tryz.prog 12 #[.agg #[.bool s, .slice ad1 n1 c1, .int .i64 e], .int .i64 g, .agg #[.bool s, .slice ad2 n2 c2, .int .i64 e], .int .i64 g] w1 fun r w' => r = .returned (.bool true) ∧ Gr w1 w') := fun s ad1 ad2 n1 n2 c1 c2 e g X w1 h h' => isS s ad1 ad2 n1 n2 c1 c2 e g X w1 h h'
  have LG : Hid (∀ w1, Calls Tryz.prog 13 #[.agg #[.bool s1, .slice a1 n1 c1, .int .i64 e1], .int .i64 last] w1 fun r w' => IsB r ∧ Gr w1 w') := fun w1 => long13 s1 a1 n1 c1 e1 last w1
  have P0 := hide (blk1 w (.cells #[.bool s1, .slice a1 n1 c1, .int .i64 e1] 24))
  have G0 : Gr w (w.alloc (.cells #[.bool s1, .slice a1 n1 c1, .int .i64 e1] 24)) := (Gr.refl w).alloc _
  clear f1 f2 ca0 cb0 ca1 cb1 ra0 rb0 ra1 rb1 r1 h1 hT
  generalize greatB n1 e1 = gb at *
  cases gb
  · go_enter Tryz.func3, Tryz.ntmps3
    go_wp2_with (first | (go_at_call 5; (with_reducible refine (GT.out _).mono ?_); rintro r w1 ⟨rfl, g1⟩; have G1 := G0.trans g1; have P1 := g1.keepH P0.out; obtain ⟨d0, d1, d2⟩ := cells_ofT P1) | (go_at_call 7; (with_reducible refine (FA.out _ G1).mono ?_); rintro r w2 ⟨rfl, g2⟩; have G2 := G1.trans g2; have P2 := g2.keepH P1; clear d0 d1 d2; obtain ⟨d0, d1, d2⟩ := cells_ofT P2) | (go_at_call 8; (with_reducible refine (FB.out _ G2).mono ?_); rintro r w3 ⟨rfl, g3⟩; have G3 := G2.trans g3; have P3 := g3.keepH P2; clear d0 d1 d2; obtain ⟨d0, d1, d2⟩ := cells_ofT P3) | (go_at_call 9; (with_reducible refine (SF.out _).mono ?_); rintro r w4 ⟨rfl, rfl⟩))
    have GW := G3
    have ltD : w.heap.size < w3.heap.size := by
      refine Nat.lt_of_not_le fun hle => ?_
      rw [Array.getElem?_eq_none hle] at P3
      cases P3
    clear d0 d1 d2 P1 P2 G1 G2 G3 g1 g2 g3 P0 G0
    go_loopw [9] (fun i wr => ∃ k : Nat, k ≤ 2 ∧ i = .int .i64 (k : Int) ∧ Hid (Gr w3 wr)) (fun i _ => 2 - (intOf i).toNat)
    case atStart => exact ⟨0, by omega, rfl, Gr.refl _⟩
    case round =>
      obtain ⟨k, hk, rfl, hg⟩ := hrel
      have PD := hg.out.keepH P3
      obtain ⟨d0, d1, d2⟩ := cells_ofT PD
      have tok : True := trivial
      have szR := hg.out.size
      rcases (show k = 0 ∨ k = 1 ∨ k = 2 by omega) with rfl | rfl | rfl
      · go_wp2_with (first | (go_at_call 10; (with_reducible refine (CA0.out _ (GW.trans hg.out)).mono ?_); rintro r w5 ⟨a5, m5, k5, rfl, hl5, g5⟩; have BA := blk1 w5 (.cells #[.bool SC0, .slice a5 m5 k5, .int .i64 EC0] 24); have gA := (Gr.refl w5).alloc (.cells #[.bool SC0, .slice a5 m5 k5, .int .i64 EC0] 24); have hlA := hl5.gr gA; have G5 := (hg.out.trans g5).trans gA; have leA : w3.heap.size ≤ w5.heap.size := Nat.le_trans szR g5.size; have ltW : w.heap.size < w5.heap.size := Nat.lt_of_lt_of_le ltD leA; have PD5 := (g5.trans gA).keepH PD; clear d0 d1 d2; obtain ⟨d0, d1, d2⟩ := cells_ofT PD5; obtain ⟨y0, y1, y2⟩ := cells_ofT BA) | (go_at_call 11; (with_reducible refine (CB0.out _ (GW.trans G5)).mono ?_); rintro r w6 ⟨a6, m6, k6, rfl, hl6, g6⟩; have BB := blk1 w6 (.cells #[.bool SC0, .slice a6 m6 k6, .int .i64 EC0] 24); have gB := (Gr.refl w6).alloc (.cells #[.bool SC0, .slice a6 m6 k6, .int .i64 EC0] 24); have hlB := hl6.gr gB; have G6 := (G5.trans g6).trans gB; have PD6 := (g6.trans gB).keepH PD5; have BA6 := (g6.trans gB).keepH BA; have hlA6 := (hlA.gr g6).gr gB; have ltA : w5.heap.size < w6.heap.size := (lt_alloc _ _ g6.size); clear d0 d1 d2 y0 y1 y2; obtain ⟨d0, d1, d2⟩ := cells_ofT PD6; obtain ⟨y0, y1, y2⟩ := cells_ofT BA6; obtain ⟨z0, z1, z2⟩ := cells_ofT BB) | (go_at_call 12; have _t := tok; (with_reducible refine (IS.out _ _ _ _ _ _ _ _ _ _ _ hlA6 hlB).mono ?_); rintro r w7 ⟨rfl, g7⟩; clear tok; have G7 := G6.trans g7; have PD7 := g7.keepH PD6; have BA7 := g7.keepH BA6; have BB7 := g7.keepH BB; clear d0 d1 d2 y0 y1 y2 z0 z1 z2; obtain ⟨d0, d1, d2⟩ := cells_ofT PD7) | (go_at_call 13; (with_reducible refine (LG.out _).mono ?_); rintro r w8 ⟨⟨lb, rfl⟩, g8⟩; have G8 := G7.trans g8; have PD8 := g8.keepH PD7; have BA8 := g8.keepH BA7; have BB8 := g8.keepH BB7; clear d0 d1 d2; obtain ⟨d0, d1, d2⟩ := cells_ofT PD8) | (go_at_call 14; (with_reducible refine (RA0.out _ (GW.trans G8)).mono ?_); rintro r w9 ⟨a9, m9, k9, rfl, hl9, g9⟩; have G9 := G8.trans g9; have PD9 := g9.keepH PD8; have BA9 := g9.keepH BA8; have BB9 := g9.keepH BB8; clear d0 d1 d2; obtain ⟨y0, y1, y2⟩ := cells_ofT BA9; obtain ⟨u0, u1, u2⟩ := open_ofT BA9; have PD10 := far24 (b := w.heap.size) (B2 := w5.heap.size) (Nat.ne_of_lt ltW) (.bool SR0) (.slice a9 m9 k9) (.int .i64 ER0) PD9; have BB10 := far24 (b := w6.heap.size) (B2 := w5.heap.size) (Nat.ne_of_gt ltA) (.bool SR0) (.slice a9 m9 k9) (.int .i64 ER0) BB9; have BA10 := own24 BA9 (.bool SR0) (.slice a9 m9 k9) (.int .i64 ER0); have hl10 := set3_lim hl9 BA9 (.bool SR0) (.slice a9 m9 k9) (.int .i64 ER0); have G10 := set3_gr G9 (b := w5.heap.size) leA (.bool SR0) (.slice a9 m9 k9) (.int .i64 ER0); obtain ⟨d0, d1, d2⟩ := cells_ofT PD10) | (go_at_call 15; (with_reducible refine (RB0.out _ (GW.trans G10)).mono ?_); rintro r w11 ⟨a11, m11, k11, rfl, hl11, g11⟩; have G11 := G10.trans g11; have BA11 := g11.keepH BA10; have BB11 := g11.keepH BB10; have hl12 := hl10.gr g11; clear d0 d1 d2 y0 y1 y2 u0 u1 u2; obtain ⟨z0, z1, z2⟩ := cells_ofT BB11; obtain ⟨u0, u1, u2⟩ := open_ofT BB11; have BA12 := far24 (b := w5.heap.size) (B2 := w6.heap.size) (Nat.ne_of_lt ltA) (.bool SR0) (.slice a11 m11 k11) (.int .i64 ER0) BA11; have BB12 := own24 BB11 (.bool SR0) (.slice a11 m11 k11) (.int .i64 ER0); have hlA12 := set3_lim hl12 BB11 (.bool SR0) (.slice a11 m11 k11) (.int .i64 ER0); have hlB12 := set3_lim hl11 BB11 (.bool SR0) (.slice a11 m11 k11) (.int .i64 ER0); have G12 := set3_gr G11 (b := w6.heap.size) (Nat.le_trans leA (Nat.le_of_lt ltA)) (.bool SR0) (.slice a11 m11 k11) (.int .i64 ER0); obtain ⟨y0, y1, y2⟩ := cells_ofT BA12; obtain ⟨v0, v1, v2⟩ := cells_ofT BB12) | (go_at_call 12; (with_reducible refine (IS.out _ _ _ _ _ _ _ _ _ _ _ hlA12 hlB12).mono ?_); rintro r w13 ⟨rfl, g13⟩))
        all_goals exact ⟨⟨0 + 1, by omega, rfl, by first | exact G8 | exact G12.trans g13⟩, by simp only [intOf]; omega⟩
      · go_wp2_with (first | (go_at_call 10; (with_reducible refine (CA1.out _ (GW.trans hg.out)).mono ?_); rintro r w5 ⟨a5, m5, k5, rfl, hl5, g5⟩; have BA := blk1 w5 (.cells #[.bool SC1, .slice a5 m5 k5, .int .i64 EC1] 24); have gA := (Gr.refl w5).alloc (.cells #[.bool SC1, .slice a5 m5 k5, .int .i64 EC1] 24); have hlA := hl5.gr gA; have G5 := (hg.out.trans g5).trans gA; have leA : w3.heap.size ≤ w5.heap.size := Nat.le_trans szR g5.size; have ltW : w.heap.size < w5.heap.size := Nat.lt_of_lt_of_le ltD leA; have PD5 := (g5.trans gA).keepH PD; clear d0 d1 d2; obtain ⟨d0, d1, d2⟩ := cells_ofT PD5; obtain ⟨y0, y1, y2⟩ := cells_ofT BA) | (go_at_call 11; (with_reducible refine (CB1.out _ (GW.trans G5)).mono ?_); rintro r w6 ⟨a6, m6, k6, rfl, hl6, g6⟩; have BB := blk1 w6 (.cells #[.bool SC1, .slice a6 m6 k6, .int .i64 EC1] 24); have gB := (Gr.refl w6).alloc (.cells #[.bool SC1, .slice a6 m6 k6, .int .i64 EC1] 24); have hlB := hl6.gr gB; have G6 := (G5.trans g6).trans gB; have PD6 := (g6.trans gB).keepH PD5; have BA6 := (g6.trans gB).keepH BA; have hlA6 := (hlA.gr g6).gr gB; have ltA : w5.heap.size < w6.heap.size := (lt_alloc _ _ g6.size); clear d0 d1 d2 y0 y1 y2; obtain ⟨d0, d1, d2⟩ := cells_ofT PD6; obtain ⟨y0, y1, y2⟩ := cells_ofT BA6; obtain ⟨z0, z1, z2⟩ := cells_ofT BB) | (go_at_call 12; have _t := tok; (with_reducible refine (IS.out _ _ _ _ _ _ _ _ _ _ _ hlA6 hlB).mono ?_); rintro r w7 ⟨rfl, g7⟩; clear tok; have G7 := G6.trans g7; have PD7 := g7.keepH PD6; have BA7 := g7.keepH BA6; have BB7 := g7.keepH BB; clear d0 d1 d2 y0 y1 y2 z0 z1 z2; obtain ⟨d0, d1, d2⟩ := cells_ofT PD7) | (go_at_call 13; (with_reducible refine (LG.out _).mono ?_); rintro r w8 ⟨⟨lb, rfl⟩, g8⟩; have G8 := G7.trans g8; have PD8 := g8.keepH PD7; have BA8 := g8.keepH BA7; have BB8 := g8.keepH BB7; clear d0 d1 d2; obtain ⟨d0, d1, d2⟩ := cells_ofT PD8) | (go_at_call 14; (with_reducible refine (RA1.out _ (GW.trans G8)).mono ?_); rintro r w9 ⟨a9, m9, k9, rfl, hl9, g9⟩; have G9 := G8.trans g9; have PD9 := g9.keepH PD8; have BA9 := g9.keepH BA8; have BB9 := g9.keepH BB8; clear d0 d1 d2; obtain ⟨y0, y1, y2⟩ := cells_ofT BA9; obtain ⟨u0, u1, u2⟩ := open_ofT BA9; have PD10 := far24 (b := w.heap.size) (B2 := w5.heap.size) (Nat.ne_of_lt ltW) (.bool SR1) (.slice a9 m9 k9) (.int .i64 ER1) PD9; have BB10 := far24 (b := w6.heap.size) (B2 := w5.heap.size) (Nat.ne_of_gt ltA) (.bool SR1) (.slice a9 m9 k9) (.int .i64 ER1) BB9; have BA10 := own24 BA9 (.bool SR1) (.slice a9 m9 k9) (.int .i64 ER1); have hl10 := set3_lim hl9 BA9 (.bool SR1) (.slice a9 m9 k9) (.int .i64 ER1); have G10 := set3_gr G9 (b := w5.heap.size) leA (.bool SR1) (.slice a9 m9 k9) (.int .i64 ER1); obtain ⟨d0, d1, d2⟩ := cells_ofT PD10) | (go_at_call 15; (with_reducible refine (RB1.out _ (GW.trans G10)).mono ?_); rintro r w11 ⟨a11, m11, k11, rfl, hl11, g11⟩; have G11 := G10.trans g11; have BA11 := g11.keepH BA10; have BB11 := g11.keepH BB10; have hl12 := hl10.gr g11; clear d0 d1 d2 y0 y1 y2 u0 u1 u2; obtain ⟨z0, z1, z2⟩ := cells_ofT BB11; obtain ⟨u0, u1, u2⟩ := open_ofT BB11; have BA12 := far24 (b := w5.heap.size) (B2 := w6.heap.size) (Nat.ne_of_lt ltA) (.bool SR1) (.slice a11 m11 k11) (.int .i64 ER1) BA11; have BB12 := own24 BB11 (.bool SR1) (.slice a11 m11 k11) (.int .i64 ER1); have hlA12 := set3_lim hl12 BB11 (.bool SR1) (.slice a11 m11 k11) (.int .i64 ER1); have hlB12 := set3_lim hl11 BB11 (.bool SR1) (.slice a11 m11 k11) (.int .i64 ER1); have G12 := set3_gr G11 (b := w6.heap.size) (Nat.le_trans leA (Nat.le_of_lt ltA)) (.bool SR1) (.slice a11 m11 k11) (.int .i64 ER1); obtain ⟨y0, y1, y2⟩ := cells_ofT BA12; obtain ⟨v0, v1, v2⟩ := cells_ofT BB12) | (go_at_call 12; (with_reducible refine (IS.out _ _ _ _ _ _ _ _ _ _ _ hlA12 hlB12).mono ?_); rintro r w13 ⟨rfl, g13⟩))
        all_goals exact ⟨⟨1 + 1, by omega, rfl, by first | exact G8 | exact G12.trans g13⟩, by simp only [intOf]; omega⟩
      · go_wp2_with (go_at_call 6; (with_reducible refine (AW.out _ (GW.trans hg.out)).mono ?_); rintro r w5 ⟨rfl, g5⟩)
        go_ret
        exact ⟨rfl, (GW.trans hg.out).trans g5⟩
  · go_enter Tryz.func3, Tryz.ntmps3
    go_wp2_with (first | (go_at_call 5; (with_reducible refine (GT.out _).mono ?_); rintro r w1 ⟨rfl, g1⟩; have G1 := G0.trans g1) | (go_at_call 6; (with_reducible refine (AW.out _ G1).mono ?_); rintro r w2 ⟨rfl, g2⟩))
    go_ret
    exact ⟨rfl, G1.trans g2⟩
end Go.Proofs.YtnmdnhmfmahjaaaGreatDoor
