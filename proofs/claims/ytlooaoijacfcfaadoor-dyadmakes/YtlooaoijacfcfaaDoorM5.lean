import Derived.Test.YtlooaoijacfcfaaDoorM4
namespace Go.Proofs.YtlooaoijacfcfaaDoor
open Go.RowKit
set_option linter.unusedVariables false

theorem sameDyadS (s : Bool) (ad1 ad2 : Option Addr) (n1 n2 c1 c2 : Nat) (e : Int) (X : Nat) (w : World) (hx : Lim w ad1 n1 c1 18446744073709551616 X) (hy : Lim w ad2 n2 c2 18446744073709551616 X) :
    Calls Tryd.prog 9 #[.agg #[.bool s, .slice ad1 n1 c1, .int .i64 e], .agg #[.bool s, .slice ad2 n2 c2, .int .i64 e]] w fun r w' => r = .returned (.bool true) ∧ Gr w w' := by
  obtain ⟨xs, rx, gx⟩ := hx
  obtain ⟨ys, ry, gy⟩ := hy
  obtain rfl := gx.unique (by omega) gy
  obtain rfl : n1 = n2 := rx.len.symm.trans ry.len
  have H39 : Hid (∀ w1, Gr w w1 → Calls Tryd.prog 23 #[.slice ad1 n1 c1, .slice ad2 n1 c2] w1 fun r w' => r = .returned (.bool true) ∧ Gr w1 w') := fun w1 g => sameLimbs39 ad1 ad2 n1 c1 c2 xs w1 (rx.gr g) (ry.gr g)
  clear rx ry gx gy
  have TB : Hid _ := two_blocks w (.bool s) (.slice ad1 n1 c1) (.int .i64 e) (.bool s) (.slice ad2 n1 c2) (.int .i64 e) _ rfl
  go_enter Tryd.func9, Tryd.ntmps9
  go_wp2_with (go_at_call 23; (with_reducible refine (H39.out _ (gr2 _ _)).mono ?_); rintro r w1 ⟨rfl, g1⟩; have k := keep6 g1 TB.out; have k2 := k.1.2.2.1; have k5 := k.1.2.2.2.2.2)
  go_ret
  exact ⟨rfl, k.2⟩
set_option maxHeartbeats 1600000 in
/-- is, of two answers that are the same -/
theorem isS (s : Bool) (ad1 ad2 : Option Addr) (n1 n2 c1 c2 : Nat) (e g : Int) (X : Nat) (w : World) (hx : Lim w ad1 n1 c1 18446744073709551616 X) (hy : Lim w ad2 n2 c2 18446744073709551616 X) :
    Calls Tryd.prog 8 #[.agg #[.bool s, .slice ad1 n1 c1, .int .i64 e], .int .i64 g, .agg #[.bool s, .slice ad2 n2 c2, .int .i64 e], .int .i64 g] w fun r w' => r = .returned (.bool true) ∧ Gr w w' := by
  have H18 : Hid (∀ w1, Gr w w1 → Calls Tryd.prog 9 #[.agg #[.bool s, .slice ad1 n1 c1, .int .i64 e], .agg #[.bool s, .slice ad2 n2 c2, .int .i64 e]] w1 fun r w' => r = .returned (.bool true) ∧ Gr w1 w') := fun w1 g => sameDyadS s ad1 ad2 n1 n2 c1 c2 e X w1 (hx.gr g) (hy.gr g)
  clear hx hy
  go_enter Tryd.func8, Tryd.ntmps8
  go_wp2_with (first | (go_at_call 9; (with_reducible refine (H18.out _ (gr2 _ _)).mono ?_); rintro r w1 ⟨rfl, g1⟩))
  go_ret
  exact ⟨rfl, (gr2 _ _).trans g1⟩
/-- a box -/
structure Bh (w : World) (b : Nat) (s : Bool) (ad : Option Addr) (n cap : Nat) (e : Int) : Prop where
  hb : w.heap[b]? = some (.cells #[.bool s, .slice ad n cap, .int .i64 e] 24)
/-- a box with a number in it -/
structure Bz (w : World) (b : Nat) (s : Bool) (ad : Option Addr) (n cap : Nat) (e : Int) (X : Nat) : Prop where
  hb : w.heap[b]? = some (.cells #[.bool s, .slice ad n cap, .int .i64 e] 24)
  lim : Lim w ad n cap 18446744073709551616 X
theorem Bh.gr {w w' : World} {b : Nat} {s : Bool} {ad : Option Addr} {n cap : Nat} {e : Int} (h : Bh w b s ad n cap e) (g : Gr w w') : Bh w' b s ad n cap e := ⟨g.keepH h.hb⟩
theorem Bz.gr {w w' : World} {b : Nat} {s : Bool} {ad : Option Addr} {n cap X : Nat} {e : Int} (h : Bz w b s ad n cap e X) (g : Gr w w') : Bz w' b s ad n cap e X := ⟨g.keepH h.hb, h.lim.gr g⟩
theorem Bz.new {w : World} {s : Bool} {ad : Option Addr} {n cap X : Nat} {e : Int} (h : Lim w ad n cap 18446744073709551616 X) : Bz (w.alloc (.cells #[.bool s, .slice ad n cap, .int .i64 e] 24)) w.heap.size s ad n cap e X := ⟨by show (w.heap.push _)[w.heap.size]? = _; simp, h.gr ((Gr.refl w).alloc _)⟩
theorem Bh.cells {w : World} {b : Nat} {s : Bool} {ad : Option Addr} {n cap : Nat} {e : Int} (h : Bh w b s ad n cap e) : w.cell? ⟨b, 0, none⟩ = some (.bool s) ∧ w.cell? ⟨b, 1, none⟩ = some (.slice ad n cap) ∧ w.cell? ⟨b, 2, none⟩ = some (.int .i64 e) := by
  have := h.hb
  exact ⟨by simp [World.cell?, this], by simp [World.cell?, this], by simp [World.cell?, this]⟩
theorem Bz.cells {w : World} {b : Nat} {s : Bool} {ad : Option Addr} {n cap X : Nat} {e : Int} (h : Bz w b s ad n cap e X) : w.cell? ⟨b, 0, none⟩ = some (.bool s) ∧ w.cell? ⟨b, 1, none⟩ = some (.slice ad n cap) ∧ w.cell? ⟨b, 2, none⟩ = some (.int .i64 e) := (Bh.mk h.hb).cells
theorem Bz.fz {w : World} {b : Nat} {s : Bool} {ad : Option Addr} {n cap X : Nat} {e : Int} (h : Bz w b s ad n cap e X) : w.frozen? ⟨b, 0, none⟩ = false ∧ w.frozen? ⟨b, 1, none⟩ = false ∧ w.frozen? ⟨b, 2, none⟩ = false := by
  have := h.hb
  exact ⟨by simp [World.frozen?, this], by simp [World.frozen?, this], by simp [World.frozen?, this]⟩
theorem keep9 {W wo wn : World} {p q r : Nat} {a0 a1 a2 b0 b1 b2 c0 c1 c2 : Value} (g : Gr wo wn) (h : (wo.cell? ⟨p, 0, none⟩ = some a0 ∧ wo.cell? ⟨p, 1, none⟩ = some a1 ∧ wo.cell? ⟨p, 2, none⟩ = some a2 ∧ wo.cell? ⟨q, 0, none⟩ = some b0 ∧ wo.cell? ⟨q, 1, none⟩ = some b1 ∧ wo.cell? ⟨q, 2, none⟩ = some b2 ∧ wo.cell? ⟨r, 0, none⟩ = some c0 ∧ wo.cell? ⟨r, 1, none⟩ = some c1 ∧ wo.cell? ⟨r, 2, none⟩ = some c2) ∧ Gr W wo) : (wn.cell? ⟨p, 0, none⟩ = some a0 ∧ wn.cell? ⟨p, 1, none⟩ = some a1 ∧ wn.cell? ⟨p, 2, none⟩ = some a2 ∧ wn.cell? ⟨q, 0, none⟩ = some b0 ∧ wn.cell? ⟨q, 1, none⟩ = some b1 ∧ wn.cell? ⟨q, 2, none⟩ = some b2 ∧ wn.cell? ⟨r, 0, none⟩ = some c0 ∧ wn.cell? ⟨r, 1, none⟩ = some c1 ∧ wn.cell? ⟨r, 2, none⟩ = some c2) ∧ Gr W wn := by
  obtain ⟨⟨h0, h1, h2, h3, h4, h5, h6, h7, h8⟩, hg⟩ := h
  exact ⟨⟨g.keep h0, g.keep h1, g.keep h2, g.keep h3, g.keep h4, g.keep h5, g.keep h6, g.keep h7, g.keep h8⟩, hg.trans g⟩
set_option maxRecDepth 100000 in
set_option maxHeartbeats 6400000 in
theorem makes3 (s : Bool) (ad : Option Addr) (n cap : Nat) (e : Int) (xs : List Nat) (x : Nat) (i : Int) (w : World) (r1 : Row w ad n cap xs) (h1 : ∀ x ∈ xs, x < 18446744073709551616) (hx : x < 18446744073709551616) (i1 : -9223372036854775808 ≤ i) (i2 : i ≤ 9223372036854775807) (hT : TabAt 1 Lib.deBruijn64tab w) :
    Calls Tryd.prog 3 #[.agg #[.bool s, .slice ad n cap, .int .i64 e], .float .f64 x, .int .i64 i] w fun r w' => r = .returned (.bool true) ∧ Gr w w' := by
  obtain ⟨sx, rx, rfl, hrx⟩ := Fl.W_split x hx
  obtain ⟨Sa, Xa, Ea, Ga, c4, c5⟩ := Fl.both_of sx rx w hrx hT
  obtain ⟨Sb, Xb, Eb, c10, c11⟩ := Fl.both_int i w i1 i2 hT
  generalize Fl.W sx rx = x at *
  have C4 : Hid (∀ w1, Gr w w1 → Calls Tryd.prog 4 #[.float .f64 x] w1 fun r w' => ∃ ad n cap, r = .returned (.tuple #[.agg #[.bool Sa, .slice ad n cap, .int .i64 Ea], .int .i64 Ga]) ∧ Lim w' ad n cap 18446744073709551616 Xa ∧ Gr w1 w') := c4
  have C5 : Hid (∀ w1, Gr w w1 → Calls Tryd.prog 5 #[.float .f64 x] w1 fun r w' => ∃ ad n cap, r = .returned (.tuple #[.agg #[.bool Sa, .slice ad n cap, .int .i64 Ea], .int .i64 Ga]) ∧ Lim w' ad n cap 18446744073709551616 Xa ∧ Gr w1 w') := c5
  have C10 : Hid _ := c10
  have C11 : Hid _ := c11
  have C6 : Hid (∀ w1, Gr w w1 → Calls Tryd.prog 6 #[.agg #[.bool s, .slice ad n cap, .int .i64 e]] w1 fun r w' => r = .returned (.bool (rightB s xs e)) ∧ Gr w1 w') := fun w1 g => right26 s ad n cap e xs w1 (r1.gr g) h1
  have C7 : Hid (∀ w1, Gr w w1 → Calls Tryd.prog 7 #[.agg #[.bool s, .slice ad n cap, .int .i64 e]] w1 fun r w' => r = .returned (.bool (rightB s xs e)) ∧ Gr w1 w') := fun w1 g => right25 s ad n cap e xs w1 (r1.gr g) h1
  have AW : Hid (∀ w1, Gr w w1 → Calls Tryd.prog 12 #[] w1 fun r w' => r = .returned (.bool true) ∧ Gr w1 w') := fun w1 g => awake7 w1 (tab_gr hT g)
  generalize rightB s xs e = rb at *
  clear c4 c5 c10 c11 r1 h1 hT hx hrx
  have HA : Bh (w.alloc (.cells #[.bool s, .slice ad n cap, .int .i64 e] 24)) w.heap.size s ad n cap e := ⟨Fl.first_block w _⟩
  have GW : Gr w (w.alloc (.cells #[.bool s, .slice ad n cap, .int .i64 e] 24)) := (Gr.refl w).alloc _
  cases rb <;> (
  go_enter Tryd.func3, Tryd.ntmps3
  go_wp2_with (first | (go_at_call 4; (with_reducible refine (C4.out _ GW).mono ?_); rintro r w1 ⟨a1, m1, k1, rfl, L1, g1⟩; replace HA := (HA.gr g1).gr ((Gr.refl w1).alloc (.cells #[.bool Sa, .slice a1 m1 k1, .int .i64 Ea] 24)); replace GW := (GW.trans g1).alloc (.cells #[.bool Sa, .slice a1 m1 k1, .int .i64 Ea] 24); have HP : Bz _ _ Sa a1 m1 k1 Ea Xa := Bz.new L1; clear g1 L1) | (go_at_call 5; (with_reducible refine (C5.out _ GW).mono ?_); rintro r w2 ⟨a2, m2, k2, rfl, L2, g2⟩; replace HA := (HA.gr g2).gr ((Gr.refl w2).alloc (.cells #[.bool Sa, .slice a2 m2 k2, .int .i64 Ea] 24)); replace HP := (HP.gr g2).gr ((Gr.refl w2).alloc (.cells #[.bool Sa, .slice a2 m2 k2, .int .i64 Ea] 24)); replace GW := (GW.trans g2).alloc (.cells #[.bool Sa, .slice a2 m2 k2, .int .i64 Ea] 24); have HQ : Bz _ _ Sa a2 m2 k2 Ea Xa := Bz.new L2; clear g2 L2))
  have ⟨qA0, qA1, qA2⟩ := HA.cells
  have ⟨qP0, qP1, qP2⟩ := HP.cells
  have ⟨qQ0, qQ1, qQ2⟩ := HQ.cells
  have LP := HP.lim
  have LQ := HQ.lim
  clear HA HP HQ C4 C5
  generalize w2.alloc (.cells #[.bool Sa, .slice a2 m2 k2, .int .i64 Ea] 24) = wr at *
  have hS0 : (wr.drew.cell? ⟨w.heap.size, 0, none⟩ = some (.bool s) ∧ wr.drew.cell? ⟨w.heap.size, 1, none⟩ = some (.slice ad n cap) ∧ wr.drew.cell? ⟨w.heap.size, 2, none⟩ = some (.int .i64 e) ∧ wr.drew.cell? ⟨w1.heap.size, 0, none⟩ = some (.bool Sa) ∧ wr.drew.cell? ⟨w1.heap.size, 1, none⟩ = some (.slice a1 m1 k1) ∧ wr.drew.cell? ⟨w1.heap.size, 2, none⟩ = some (.int .i64 Ea) ∧ wr.drew.cell? ⟨w2.heap.size, 0, none⟩ = some (.bool Sa) ∧ wr.drew.cell? ⟨w2.heap.size, 1, none⟩ = some (.slice a2 m2 k2) ∧ wr.drew.cell? ⟨w2.heap.size, 2, none⟩ = some (.int .i64 Ea)) ∧ Gr wr wr.drew := ⟨⟨qA0, qA1, qA2, qP0, qP1, qP2, qQ0, qQ1, qQ2⟩, (Gr.refl wr).drew⟩
  have IS : Hid (∀ w1, Gr wr w1 → Calls Tryd.prog 8 #[.agg #[.bool Sa, .slice a1 m1 k1, .int .i64 Ea], .int .i64 Ga, .agg #[.bool Sa, .slice a2 m2 k2, .int .i64 Ea], .int .i64 Ga] w1 fun r w' => r = .returned (.bool true) ∧ Gr w1 w') := fun w1 g => isS Sa a1 a2 m1 m2 k1 k2 Ea Ga Xa w1 (LP.gr g) (LQ.gr g)
  have D6 : Hid (∀ w1, Gr wr w1 → _) := fun w1 g => C6.out w1 (GW.trans g)
  have D7 : Hid (∀ w1, Gr wr w1 → _) := fun w1 g => C7.out w1 (GW.trans g)
  have D10 : Hid (∀ w1, Gr wr w1 → _) := fun w1 g => C10.out w1 (GW.trans g)
  have D11 : Hid (∀ w1, Gr wr w1 → _) := fun w1 g => C11.out w1 (GW.trans g)
  have DA : Hid (∀ w1, Gr wr w1 → _) := fun w1 g => AW.out w1 (GW.trans g)
  clear C6 C7 C10 C11 AW LP LQ qA0 qA1 qA2 qP0 qP1 qP2 qQ0 qQ1 qQ2
  go_region_held3 (fun w' => (w'.cell? ⟨w.heap.size, 0, none⟩ = some (.bool s) ∧ w'.cell? ⟨w.heap.size, 1, none⟩ = some (.slice ad n cap) ∧ w'.cell? ⟨w.heap.size, 2, none⟩ = some (.int .i64 e) ∧ w'.cell? ⟨w1.heap.size, 0, none⟩ = some (.bool Sa) ∧ w'.cell? ⟨w1.heap.size, 1, none⟩ = some (.slice a1 m1 k1) ∧ w'.cell? ⟨w1.heap.size, 2, none⟩ = some (.int .i64 Ea) ∧ w'.cell? ⟨w2.heap.size, 0, none⟩ = some (.bool Sa) ∧ w'.cell? ⟨w2.heap.size, 1, none⟩ = some (.slice a2 m2 k2) ∧ w'.cell? ⟨w2.heap.size, 2, none⟩ = some (.int .i64 Ea)) ∧ Gr wr w') (first | (with_reducible assumption) | (apply keep9; (with_reducible assumption); (with_reducible assumption))) (first | (go_at_call 6; (with_reducible refine (D6.out _ ?gg).mono ?_); (case gg => exact And.right ‹_ ∧ Gr wr _›); rintro r w3 ⟨rfl, g3⟩) | (go_at_call 7; (with_reducible refine (D7.out _ ?gg).mono ?_); (case gg => exact And.right ‹_ ∧ Gr wr _›); rintro r w4 ⟨rfl, g4⟩) | (go_at_call 8; (with_reducible refine (IS.out _ ?gg).mono ?_); (case gg => exact And.right ‹_ ∧ Gr wr _›); rintro r w5 ⟨rfl, g5⟩) | (go_at_call 10; (with_reducible refine (D10.out _ ?gg).mono ?_); (case gg => exact And.right ‹_ ∧ Gr wr _›); rintro r w6 ⟨a6, m6, k6, rfl, l6, g6⟩) | (go_at_call 11; (with_reducible refine (D11.out _ ?gg).mono ?_); (case gg => exact And.right ‹_ ∧ Gr wr _›); rintro r w7 ⟨a7, m7, k7, rfl, l7, g7⟩) | (go_at_call 9; (with_reducible refine (sameDyadS Sb a6 a7 m6 m7 k6 k7 Eb Xb _ (l6.gr g7) l7).mono ?_); rintro r w8 ⟨rfl, g8⟩) | (go_at_call 12; (with_reducible refine (DA.out _ ?gg).mono ?_); (case gg => exact And.right ‹_ ∧ Gr wr _›); rintro r w9 ⟨rfl, g9⟩))
  go_wp2
  go_ret
  exact ⟨rfl, GW.trans (((((((Gr.refl wr).drew.trans g3).trans g4).trans g5).trans g6).trans g7).trans g8 |>.trans g9)⟩)
end Go.Proofs.YtlooaoijacfcfaaDoor
