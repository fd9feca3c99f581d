import Derived.Test.YtnjndegdhhmbaaaGreatP37
namespace Go.Proofs.YtnjndegdhhmbaaaGreat
open Go.RowKit
set_option linter.unusedVariables false

set_option maxHeartbeats 1600000 in
set_option maxRecDepth 10000 in
theorem less_of (s t : Bool) (ad1 ad2 : Option Addr) (n1 n2 c1 c2 : Nat) (e f : Int) (w : World) (neg : Bool) (m : Nat) (g : Int)
    (H : ∀ w1, Gr w w1 → Calls Tryz.prog 9 #[.agg #[.bool s, .slice ad1 n1 c1, .int .i64 e], .agg #[.bool (!t), .slice ad2 n2 c2, .int .i64 f]] w1 fun r w' => ∃ ad n cap, r = .returned (.agg #[.bool neg, .slice ad n cap, .int .i64 g]) ∧ Lim w' ad n cap 18446744073709551616 m ∧ Gr w1 w') :
    Calls Tryz.prog 31 #[.agg #[.bool s, .slice ad1 n1 c1, .int .i64 e], .agg #[.bool t, .slice ad2 n2 c2, .int .i64 f]] w fun r w' => ∃ ad n cap, r = .returned (.agg #[.bool neg, .slice ad n cap, .int .i64 g]) ∧ Lim w' ad n cap 18446744073709551616 m ∧ Gr w w' := by
  have HM : Hid (∀ w1, Calls Tryz.prog 48 #[.agg #[.bool t, .slice ad2 n2 c2, .int .i64 f]] w1 fun r w' => r = .returned (.agg #[.bool (!t), .slice ad2 n2 c2, .int .i64 f]) ∧ Gr w1 w') := fun w1 => minus70 t ad2 n2 c2 f w1
  have HH : Hid (∀ w1, Gr w w1 → Calls Tryz.prog 9 #[.agg #[.bool s, .slice ad1 n1 c1, .int .i64 e], .agg #[.bool (!t), .slice ad2 n2 c2, .int .i64 f]] w1 fun r w' => ∃ ad n cap, r = .returned (.agg #[.bool neg, .slice ad n cap, .int .i64 g]) ∧ Lim w' ad n cap 18446744073709551616 m ∧ Gr w1 w') := H
  clear H
  go_enter Tryz.func31, Tryz.ntmps31
  go_wp2
  obtain ⟨W0, hW0⟩ : ∃ W0, W0 = ((w.alloc (.cells #[.bool s, .slice ad1 n1 c1, .int .i64 e] 36)).alloc (.cells #[.bool t, .slice ad2 n2 c2, .int .i64 f] 36)).alloc (.cells #[.bool false, .slice none 0 0, .int .i64 0] 36) := ⟨_, rfl⟩
  rw [← hW0]
  have hS0 : (W0.drew.cell? ⟨w.heap.size, 0, none⟩ = some (.bool s) ∧ W0.drew.cell? ⟨w.heap.size, 1, none⟩ = some (.slice ad1 n1 c1) ∧ W0.drew.cell? ⟨w.heap.size, 2, none⟩ = some (.int .i64 e) ∧ W0.drew.cell? ⟨w.heap.size + 1, 0, none⟩ = some (.bool t) ∧ W0.drew.cell? ⟨w.heap.size + 1, 1, none⟩ = some (.slice ad2 n2 c2) ∧ W0.drew.cell? ⟨w.heap.size + 1, 2, none⟩ = some (.int .i64 f)) ∧ (W0.drew.cell? ⟨w.heap.size + 2, 0, none⟩ = some (cellV W0.drew (w.heap.size + 2) 0) ∧ W0.drew.cell? ⟨w.heap.size + 2, 1, none⟩ = some (cellV W0.drew (w.heap.size + 2) 1) ∧ W0.drew.cell? ⟨w.heap.size + 2, 2, none⟩ = some (cellV W0.drew (w.heap.size + 2) 2) ∧ W0.drew.frozen? ⟨w.heap.size + 2, 0, none⟩ = false ∧ W0.drew.frozen? ⟨w.heap.size + 2, 1, none⟩ = false ∧ W0.drew.frozen? ⟨w.heap.size + 2, 2, none⟩ = false) ∧ Gr w W0.drew := boxes3 w 36 _ _ _ _ _ _ _ _ _ W0.drew W0 hW0 rfl
  have hB2 : Hid (W0.drew.heap[w.heap.size + 1 + 1]? = some (.cells #[.bool false, .slice none 0 0, .int .i64 0] 36)) := boxes3' w 36 _ _ _ _ _ _ _ _ _ W0 hW0
  have hL0 : w.heap.size + 1 + 1 < W0.drew.heap.size := lt_of_cell' hS0.2.1.1
  clear hW0
  go_region_held3 (fun w' => (w'.cell? ⟨w.heap.size, 0, none⟩ = some (.bool s) ∧ w'.cell? ⟨w.heap.size, 1, none⟩ = some (.slice ad1 n1 c1) ∧ w'.cell? ⟨w.heap.size, 2, none⟩ = some (.int .i64 e) ∧ w'.cell? ⟨w.heap.size + 1, 0, none⟩ = some (.bool t) ∧ w'.cell? ⟨w.heap.size + 1, 1, none⟩ = some (.slice ad2 n2 c2) ∧ w'.cell? ⟨w.heap.size + 1, 2, none⟩ = some (.int .i64 f)) ∧ (w'.cell? ⟨w.heap.size + 2, 0, none⟩ = some (cellV w' (w.heap.size + 2) 0) ∧ w'.cell? ⟨w.heap.size + 2, 1, none⟩ = some (cellV w' (w.heap.size + 2) 1) ∧ w'.cell? ⟨w.heap.size + 2, 2, none⟩ = some (cellV w' (w.heap.size + 2) 2) ∧ w'.frozen? ⟨w.heap.size + 2, 0, none⟩ = false ∧ w'.frozen? ⟨w.heap.size + 2, 1, none⟩ = false ∧ w'.frozen? ⟨w.heap.size + 2, 2, none⟩ = false) ∧ Gr w w') (first | (with_reducible assumption) | (apply keep3; (with_reducible assumption); (with_reducible assumption)) | (refine keepSt3 rfl ?_; (with_reducible assumption))) (first | (go_at_call 48; refine (HM.out _).mono ?_; rintro r w1 ⟨rfl, g1⟩) | (go_at_call 9; refine (HH.out _ (And.right (And.right ‹_ ∧ _ ∧ Gr w _›))).mono ?_; rintro r w3 ⟨a3, m3, k3, rfl, hl3, g3⟩))
  have hG3 := g1.trans g3
  have hbn : w3.heap[w.heap.size + 1 + 1]? = some (.cells #[.bool false, .slice none 0 0, .int .i64 0] 36) := by
    rw [hG3.block _ hL0]; exact hB2.out
  have k0 : w3.cell? ⟨w.heap.size + 1 + 1, 0, none⟩ = some (.bool false) := (num_block hbn).1.1
  have k1 : w3.cell? ⟨w.heap.size + 1 + 1, 1, none⟩ = some (.slice none 0 0) := (num_block hbn).1.2.1
  have k2 : w3.cell? ⟨w.heap.size + 1 + 1, 2, none⟩ = some (.int .i64 0) := (num_block hbn).1.2.2
  have hl5 := hl3.apart hbn
  have hG := fun v0 v1 v2 => set3_gr (b := w.heap.size + 1 + 1) (hS0.2.2.trans hG3) (by omega) v0 v1 v2
  clear hbn
  go_wp2
  refine bodyPost_ret (v := .agg #[.bool neg, .slice a3 m3 k3, .int .i64 g]) ?_ rfl ⟨a3, m3, k3, rfl, hl3.set3 hl5 _ _ _, hG _ _ _⟩
  simp [results, Tryz.results31, go_sem, k0, k1, k2]

set_option maxRecDepth 10000 in
/-- THE DIFFERENCE OF TWO NUMBERS -/
theorem less49 (s t : Bool) (ad1 ad2 : Option Addr) (n1 n2 c1 c2 x y : Nat) (e f : Int) (w : World) (hx : Lim w ad1 n1 c1 18446744073709551616 x) (hy : Lim w ad2 n2 c2 18446744073709551616 y) (bx : bl x ≤ 17179869184) (by' : bl y ≤ 17179869184) (e1 : -1000000000 ≤ e) (e2 : e ≤ 1000000000) (f1 : -1000000000 ≤ f) (f2 : f ≤ 1000000000) :
    ∃ neg m g, (∀ K, 0 ≤ e + K → 0 ≤ f + K → 0 ≤ g + K ∧ sv K neg m g = sv K s x e - sv K t y f) ∧ (g = e ∨ g = f) ∧ bl m ≤ bl x + bl y + (f - e).natAbs + 1 ∧ ∀ w1, Gr w w1 → Calls Tryz.prog 31 #[.agg #[.bool s, .slice ad1 n1 c1, .int .i64 e], .agg #[.bool t, .slice ad2 n2 c2, .int .i64 f]] w1 fun r w' => ∃ ad n cap, r = .returned (.agg #[.bool neg, .slice ad n cap, .int .i64 g]) ∧ Lim w' ad n cap 18446744073709551616 m ∧ Gr w1 w' := by
  obtain ⟨neg, m, g, h1, h2, h3, h4⟩ := plus40 s (!t) ad1 ad2 n1 n2 c1 c2 x y e f w hx hy (by omega) (by omega) e1 e2 f1 f2
  exact ⟨neg, m, g, fun K a b => ⟨(h1 K a b).1, by rw [(h1 K a b).2, sv_neg]; omega⟩, h2, h3, fun w1 hg => less_of s t ad1 ad2 n1 n2 c1 c2 e f w1 neg m g (fun w2 hg2 => h4 w2 (hg.trans hg2))⟩

set_option maxRecDepth 10000 in
theorem boxesQ (w : World) (T : TypeId) (a0 a1 a2 b0 b1 b2 : Value) (W0 : World) (hW0 : W0 = (w.alloc (.cells #[a0, a1, a2] T)).alloc (.cells #[b0, b1, b2] T)) :
    (W0.drew.cell? ⟨w.heap.size, 0, none⟩ = some a0 ∧ W0.drew.cell? ⟨w.heap.size, 1, none⟩ = some a1 ∧ W0.drew.cell? ⟨w.heap.size, 2, none⟩ = some a2 ∧ W0.drew.cell? ⟨w.heap.size + 1, 0, none⟩ = some b0 ∧ W0.drew.cell? ⟨w.heap.size + 1, 1, none⟩ = some b1 ∧ W0.drew.cell? ⟨w.heap.size + 1, 2, none⟩ = some b2) ∧ Gr w W0.drew := by
  have h0 : W0.heap[w.heap.size]? = some (.cells #[a0, a1, a2] T) := by
    rw [hW0]
    show ((w.heap.push _).push _)[w.heap.size]? = _
    simp only [Array.getElem?_push, Array.size_push]
    rw [if_neg (by omega), if_pos trivial]
  have h1 : W0.heap[w.heap.size + 1]? = some (.cells #[b0, b1, b2] T) := by
    rw [hW0]
    show ((w.heap.push _).push _)[w.heap.size + 1]? = _
    simp only [Array.getElem?_push, Array.size_push]
    rw [if_pos trivial]
  obtain ⟨⟨p0, p1, p2⟩, _⟩ := num_block h0
  obtain ⟨⟨q0, q1, q2⟩, _⟩ := num_block h1
  exact ⟨⟨p0, p1, p2, q0, q1, q2⟩, hW0 ▸ (((Gr.refl w).alloc _).alloc _).drew⟩
set_option maxRecDepth 10000 in
theorem keep6R {w wo wn : World} {a0 a1 a2 b0 b1 b2 : Value} (g : Gr wo wn) (h : (wo.cell? ⟨w.heap.size, 0, none⟩ = some a0 ∧ wo.cell? ⟨w.heap.size, 1, none⟩ = some a1 ∧ wo.cell? ⟨w.heap.size, 2, none⟩ = some a2 ∧ wo.cell? ⟨w.heap.size + 1, 0, none⟩ = some b0 ∧ wo.cell? ⟨w.heap.size + 1, 1, none⟩ = some b1 ∧ wo.cell? ⟨w.heap.size + 1, 2, none⟩ = some b2) ∧ Gr w wo) :
    (wn.cell? ⟨w.heap.size, 0, none⟩ = some a0 ∧ wn.cell? ⟨w.heap.size, 1, none⟩ = some a1 ∧ wn.cell? ⟨w.heap.size, 2, none⟩ = some a2 ∧ wn.cell? ⟨w.heap.size + 1, 0, none⟩ = some b0 ∧ wn.cell? ⟨w.heap.size + 1, 1, none⟩ = some b1 ∧ wn.cell? ⟨w.heap.size + 1, 2, none⟩ = some b2) ∧ Gr w wn := by
  obtain ⟨⟨h0, h1, h2, h3, h4, h5⟩, hg⟩ := h
  exact ⟨⟨g.keep h0, g.keep h1, g.keep h2, g.keep h3, g.keep h4, g.keep h5⟩, hg.trans g⟩

set_option maxHeartbeats 1600000 in
set_option maxRecDepth 10000 in
theorem cmp_1 (s t : Bool) (ad1 ad2 : Option Addr) (n1 n2 c1 c2 : Nat) (e f a b p q : Int) (w : World) (ha1 : -1 ≤ a) (ha2 : a ≤ 1) (hb1 : -1 ≤ b) (hb2 : b ≤ 1)
    (HS1 : Hid (∀ w1, Gr w w1 → Calls Tryz.prog 29 #[.agg #[.bool s, .slice ad1 n1 c1, .int .i64 e]] w1 fun r w' => r = .returned (.int .i64 a) ∧ Gr w1 w'))
    (HS2 : Hid (∀ w1, Gr w w1 → Calls Tryz.prog 29 #[.agg #[.bool t, .slice ad2 n2 c2, .int .i64 f]] w1 fun r w' => r = .returned (.int .i64 b) ∧ Gr w1 w')) (h : a < b) :
    Calls Tryz.prog 13 #[.agg #[.bool s, .slice ad1 n1 c1, .int .i64 e], .agg #[.bool t, .slice ad2 n2 c2, .int .i64 f]] w fun r w' => r = .returned (.int .i64 (-1)) ∧ Gr w w' := by
  go_enter Tryz.func13, Tryz.ntmps13
  go_wp2
  obtain ⟨W0, hW0⟩ : ∃ W0, W0 = (w.alloc (.cells #[.bool s, .slice ad1 n1 c1, .int .i64 e] 36)).alloc (.cells #[.bool t, .slice ad2 n2 c2, .int .i64 f] 36) := ⟨_, rfl⟩
  rw [← hW0]
  have hS0 : (W0.drew.cell? ⟨w.heap.size, 0, none⟩ = some (.bool s) ∧ W0.drew.cell? ⟨w.heap.size, 1, none⟩ = some (.slice ad1 n1 c1) ∧ W0.drew.cell? ⟨w.heap.size, 2, none⟩ = some (.int .i64 e) ∧ W0.drew.cell? ⟨w.heap.size + 1, 0, none⟩ = some (.bool t) ∧ W0.drew.cell? ⟨w.heap.size + 1, 1, none⟩ = some (.slice ad2 n2 c2) ∧ W0.drew.cell? ⟨w.heap.size + 1, 2, none⟩ = some (.int .i64 f)) ∧ Gr w W0.drew := boxesQ w 36 _ _ _ _ _ _ W0 hW0
  clear hW0
  have tok : True := trivial
  go_region_held3 (fun w' => (w'.cell? ⟨w.heap.size, 0, none⟩ = some (.bool s) ∧ w'.cell? ⟨w.heap.size, 1, none⟩ = some (.slice ad1 n1 c1) ∧ w'.cell? ⟨w.heap.size, 2, none⟩ = some (.int .i64 e) ∧ w'.cell? ⟨w.heap.size + 1, 0, none⟩ = some (.bool t) ∧ w'.cell? ⟨w.heap.size + 1, 1, none⟩ = some (.slice ad2 n2 c2) ∧ w'.cell? ⟨w.heap.size + 1, 2, none⟩ = some (.int .i64 f)) ∧ Gr w w') (first | (with_reducible assumption) | (apply keep6R; (with_reducible assumption); (with_reducible assumption))) (first | (go_at_call 29; have _t := tok; refine (HS1.out _ (And.right ‹_ ∧ Gr w _›)).mono ?_; rintro r w1 ⟨rfl, g1⟩; clear tok) | (go_at_call 29; refine (HS2.out _ (And.right ‹_ ∧ Gr w _›)).mono ?_; rintro r w2 ⟨rfl, g2⟩))
  have hS2 := keep6R (g1.trans g2) hS0
  go_wp2
  go_ret
  exact ⟨rfl, hS2.2⟩

set_option maxHeartbeats 1600000 in
set_option maxRecDepth 10000 in
theorem cmp_2 (s t : Bool) (ad1 ad2 : Option Addr) (n1 n2 c1 c2 : Nat) (e f a b p q : Int) (w : World) (ha1 : -1 ≤ a) (ha2 : a ≤ 1) (hb1 : -1 ≤ b) (hb2 : b ≤ 1)
    (HS1 : Hid (∀ w1, Gr w w1 → Calls Tryz.prog 29 #[.agg #[.bool s, .slice ad1 n1 c1, .int .i64 e]] w1 fun r w' => r = .returned (.int .i64 a) ∧ Gr w1 w'))
    (HS2 : Hid (∀ w1, Gr w w1 → Calls Tryz.prog 29 #[.agg #[.bool t, .slice ad2 n2 c2, .int .i64 f]] w1 fun r w' => r = .returned (.int .i64 b) ∧ Gr w1 w')) (h : ¬ a < b) (h' : b < a) :
    Calls Tryz.prog 13 #[.agg #[.bool s, .slice ad1 n1 c1, .int .i64 e], .agg #[.bool t, .slice ad2 n2 c2, .int .i64 f]] w fun r w' => r = .returned (.int .i64 1) ∧ Gr w w' := by
  go_enter Tryz.func13, Tryz.ntmps13
  go_wp2
  obtain ⟨W0, hW0⟩ : ∃ W0, W0 = (w.alloc (.cells #[.bool s, .slice ad1 n1 c1, .int .i64 e] 36)).alloc (.cells #[.bool t, .slice ad2 n2 c2, .int .i64 f] 36) := ⟨_, rfl⟩
  rw [← hW0]
  have hS0 : (W0.drew.cell? ⟨w.heap.size, 0, none⟩ = some (.bool s) ∧ W0.drew.cell? ⟨w.heap.size, 1, none⟩ = some (.slice ad1 n1 c1) ∧ W0.drew.cell? ⟨w.heap.size, 2, none⟩ = some (.int .i64 e) ∧ W0.drew.cell? ⟨w.heap.size + 1, 0, none⟩ = some (.bool t) ∧ W0.drew.cell? ⟨w.heap.size + 1, 1, none⟩ = some (.slice ad2 n2 c2) ∧ W0.drew.cell? ⟨w.heap.size + 1, 2, none⟩ = some (.int .i64 f)) ∧ Gr w W0.drew := boxesQ w 36 _ _ _ _ _ _ W0 hW0
  clear hW0
  have tok : True := trivial
  go_region_held3 (fun w' => (w'.cell? ⟨w.heap.size, 0, none⟩ = some (.bool s) ∧ w'.cell? ⟨w.heap.size, 1, none⟩ = some (.slice ad1 n1 c1) ∧ w'.cell? ⟨w.heap.size, 2, none⟩ = some (.int .i64 e) ∧ w'.cell? ⟨w.heap.size + 1, 0, none⟩ = some (.bool t) ∧ w'.cell? ⟨w.heap.size + 1, 1, none⟩ = some (.slice ad2 n2 c2) ∧ w'.cell? ⟨w.heap.size + 1, 2, none⟩ = some (.int .i64 f)) ∧ Gr w w') (first | (with_reducible assumption) | (apply keep6R; (with_reducible assumption); (with_reducible assumption))) (first | (go_at_call 29; have _t := tok; refine (HS1.out _ (And.right ‹_ ∧ Gr w _›)).mono ?_; rintro r w1 ⟨rfl, g1⟩; clear tok) | (go_at_call 29; refine (HS2.out _ (And.right ‹_ ∧ Gr w _›)).mono ?_; rintro r w2 ⟨rfl, g2⟩))
  have hS2 := keep6R (g1.trans g2) hS0
  go_wp2
  go_ret
  exact ⟨rfl, hS2.2⟩

set_option maxHeartbeats 1600000 in
set_option maxRecDepth 10000 in
theorem cmp_3 (s t : Bool) (ad1 ad2 : Option Addr) (n1 n2 c1 c2 : Nat) (e f a b p q : Int) (w : World) (ha1 : -1 ≤ a) (ha2 : a ≤ 1) (hb1 : -1 ≤ b) (hb2 : b ≤ 1)
    (HS1 : Hid (∀ w1, Gr w w1 → Calls Tryz.prog 29 #[.agg #[.bool s, .slice ad1 n1 c1, .int .i64 e]] w1 fun r w' => r = .returned (.int .i64 a) ∧ Gr w1 w'))
    (HS2 : Hid (∀ w1, Gr w w1 → Calls Tryz.prog 29 #[.agg #[.bool t, .slice ad2 n2 c2, .int .i64 f]] w1 fun r w' => r = .returned (.int .i64 b) ∧ Gr w1 w')) (h : ¬ a < b) (h' : ¬ b < a) (h0 : a = 0) :
    Calls Tryz.prog 13 #[.agg #[.bool s, .slice ad1 n1 c1, .int .i64 e], .agg #[.bool t, .slice ad2 n2 c2, .int .i64 f]] w fun r w' => r = .returned (.int .i64 0) ∧ Gr w w' := by
  go_enter Tryz.func13, Tryz.ntmps13
  go_wp2
  obtain ⟨W0, hW0⟩ : ∃ W0, W0 = (w.alloc (.cells #[.bool s, .slice ad1 n1 c1, .int .i64 e] 36)).alloc (.cells #[.bool t, .slice ad2 n2 c2, .int .i64 f] 36) := ⟨_, rfl⟩
  rw [← hW0]
  have hS0 : (W0.drew.cell? ⟨w.heap.size, 0, none⟩ = some (.bool s) ∧ W0.drew.cell? ⟨w.heap.size, 1, none⟩ = some (.slice ad1 n1 c1) ∧ W0.drew.cell? ⟨w.heap.size, 2, none⟩ = some (.int .i64 e) ∧ W0.drew.cell? ⟨w.heap.size + 1, 0, none⟩ = some (.bool t) ∧ W0.drew.cell? ⟨w.heap.size + 1, 1, none⟩ = some (.slice ad2 n2 c2) ∧ W0.drew.cell? ⟨w.heap.size + 1, 2, none⟩ = some (.int .i64 f)) ∧ Gr w W0.drew := boxesQ w 36 _ _ _ _ _ _ W0 hW0
  clear hW0
  have tok : True := trivial
  go_region_held3 (fun w' => (w'.cell? ⟨w.heap.size, 0, none⟩ = some (.bool s) ∧ w'.cell? ⟨w.heap.size, 1, none⟩ = some (.slice ad1 n1 c1) ∧ w'.cell? ⟨w.heap.size, 2, none⟩ = some (.int .i64 e) ∧ w'.cell? ⟨w.heap.size + 1, 0, none⟩ = some (.bool t) ∧ w'.cell? ⟨w.heap.size + 1, 1, none⟩ = some (.slice ad2 n2 c2) ∧ w'.cell? ⟨w.heap.size + 1, 2, none⟩ = some (.int .i64 f)) ∧ Gr w w') (first | (with_reducible assumption) | (apply keep6R; (with_reducible assumption); (with_reducible assumption))) (first | (go_at_call 29; have _t := tok; refine (HS1.out _ (And.right ‹_ ∧ Gr w _›)).mono ?_; rintro r w1 ⟨rfl, g1⟩; clear tok) | (go_at_call 29; refine (HS2.out _ (And.right ‹_ ∧ Gr w _›)).mono ?_; rintro r w2 ⟨rfl, g2⟩))
  have hS2 := keep6R (g1.trans g2) hS0
  go_wp2
  go_ret
  exact ⟨rfl, hS2.2⟩

set_option maxHeartbeats 1600000 in
set_option maxRecDepth 10000 in
theorem cmp_4 (s t : Bool) (ad1 ad2 : Option Addr) (n1 n2 c1 c2 : Nat) (e f a b p q : Int) (w : World) (ha1 : -1 ≤ a) (ha2 : a ≤ 1) (hb1 : -1 ≤ b) (hb2 : b ≤ 1)
    (HS1 : Hid (∀ w1, Gr w w1 → Calls Tryz.prog 29 #[.agg #[.bool s, .slice ad1 n1 c1, .int .i64 e]] w1 fun r w' => r = .returned (.int .i64 a) ∧ Gr w1 w'))
    (HS2 : Hid (∀ w1, Gr w w1 → Calls Tryz.prog 29 #[.agg #[.bool t, .slice ad2 n2 c2, .int .i64 f]] w1 fun r w' => r = .returned (.int .i64 b) ∧ Gr w1 w'))
    (HT1 : Hid (∀ w1, Gr w w1 → Calls Tryz.prog 30 #[.agg #[.bool s, .slice ad1 n1 c1, .int .i64 e]] w1 fun r w' => r = .returned (.int .i64 p) ∧ Gr w1 w'))
    (HT2 : Hid (∀ w1, Gr w w1 → Calls Tryz.prog 30 #[.agg #[.bool t, .slice ad2 n2 c2, .int .i64 f]] w1 fun r w' => r = .returned (.int .i64 q) ∧ Gr w1 w')) (h : ¬ a < b) (h' : ¬ b < a) (h0 : a ≠ 0) (hpq : p < q) :
    Calls Tryz.prog 13 #[.agg #[.bool s, .slice ad1 n1 c1, .int .i64 e], .agg #[.bool t, .slice ad2 n2 c2, .int .i64 f]] w fun r w' => r = .returned (.int .i64 (-a)) ∧ Gr w w' := by
  go_enter Tryz.func13, Tryz.ntmps13
  go_wp2
  obtain ⟨W0, hW0⟩ : ∃ W0, W0 = (w.alloc (.cells #[.bool s, .slice ad1 n1 c1, .int .i64 e] 36)).alloc (.cells #[.bool t, .slice ad2 n2 c2, .int .i64 f] 36) := ⟨_, rfl⟩
  rw [← hW0]
  have hS0 : (W0.drew.cell? ⟨w.heap.size, 0, none⟩ = some (.bool s) ∧ W0.drew.cell? ⟨w.heap.size, 1, none⟩ = some (.slice ad1 n1 c1) ∧ W0.drew.cell? ⟨w.heap.size, 2, none⟩ = some (.int .i64 e) ∧ W0.drew.cell? ⟨w.heap.size + 1, 0, none⟩ = some (.bool t) ∧ W0.drew.cell? ⟨w.heap.size + 1, 1, none⟩ = some (.slice ad2 n2 c2) ∧ W0.drew.cell? ⟨w.heap.size + 1, 2, none⟩ = some (.int .i64 f)) ∧ Gr w W0.drew := boxesQ w 36 _ _ _ _ _ _ W0 hW0
  clear hW0
  have tok : True := trivial
  go_region_held3 (fun w' => (w'.cell? ⟨w.heap.size, 0, none⟩ = some (.bool s) ∧ w'.cell? ⟨w.heap.size, 1, none⟩ = some (.slice ad1 n1 c1) ∧ w'.cell? ⟨w.heap.size, 2, none⟩ = some (.int .i64 e) ∧ w'.cell? ⟨w.heap.size + 1, 0, none⟩ = some (.bool t) ∧ w'.cell? ⟨w.heap.size + 1, 1, none⟩ = some (.slice ad2 n2 c2) ∧ w'.cell? ⟨w.heap.size + 1, 2, none⟩ = some (.int .i64 f)) ∧ Gr w w') (first | (with_reducible assumption) | (apply keep6R; (with_reducible assumption); (with_reducible assumption))) (first | (go_at_call 29; have _t := tok; refine (HS1.out _ (And.right ‹_ ∧ Gr w _›)).mono ?_; rintro r w1 ⟨rfl, g1⟩; clear tok) | (go_at_call 29; refine (HS2.out _ (And.right ‹_ ∧ Gr w _›)).mono ?_; rintro r w2 ⟨rfl, g2⟩))
  have hS2 := keep6R (g1.trans g2) hS0
  go_wp2
  have tokA : True := trivial
  have hS2d := keep6R (Gr.refl w2).drew hS2
  go_region_held3 (fun w' => (w'.cell? ⟨w.heap.size, 0, none⟩ = some (.bool s) ∧ w'.cell? ⟨w.heap.size, 1, none⟩ = some (.slice ad1 n1 c1) ∧ w'.cell? ⟨w.heap.size, 2, none⟩ = some (.int .i64 e) ∧ w'.cell? ⟨w.heap.size + 1, 0, none⟩ = some (.bool t) ∧ w'.cell? ⟨w.heap.size + 1, 1, none⟩ = some (.slice ad2 n2 c2) ∧ w'.cell? ⟨w.heap.size + 1, 2, none⟩ = some (.int .i64 f)) ∧ Gr w w') (first | (with_reducible assumption) | (apply keep6R; (with_reducible assumption); (with_reducible assumption))) (first | (go_at_call 30; have _t := tokA; refine (HT1.out _ (And.right ‹_ ∧ Gr w _›)).mono ?_; rintro r w3 ⟨rfl, gw3⟩; clear tokA) | (go_at_call 30; refine (HT2.out _ (And.right ‹_ ∧ Gr w _›)).mono ?_; rintro r w4 ⟨rfl, gw4⟩))
  have hSw4 := keep6R (gw3.trans gw4) hS2d
  go_wp2
  go_ret
  exact ⟨rfl, hSw4.2⟩

set_option maxHeartbeats 1600000 in
set_option maxRecDepth 10000 in
theorem cmp_5 (s t : Bool) (ad1 ad2 : Option Addr) (n1 n2 c1 c2 : Nat) (e f a b p q : Int) (w : World) (ha1 : -1 ≤ a) (ha2 : a ≤ 1) (hb1 : -1 ≤ b) (hb2 : b ≤ 1)
    (HS1 : Hid (∀ w1, Gr w w1 → Calls Tryz.prog 29 #[.agg #[.bool s, .slice ad1 n1 c1, .int .i64 e]] w1 fun r w' => r = .returned (.int .i64 a) ∧ Gr w1 w'))
    (HS2 : Hid (∀ w1, Gr w w1 → Calls Tryz.prog 29 #[.agg #[.bool t, .slice ad2 n2 c2, .int .i64 f]] w1 fun r w' => r = .returned (.int .i64 b) ∧ Gr w1 w'))
    (HT1 : Hid (∀ w1, Gr w w1 → Calls Tryz.prog 30 #[.agg #[.bool s, .slice ad1 n1 c1, .int .i64 e]] w1 fun r w' => r = .returned (.int .i64 p) ∧ Gr w1 w'))
    (HT2 : Hid (∀ w1, Gr w w1 → Calls Tryz.prog 30 #[.agg #[.bool t, .slice ad2 n2 c2, .int .i64 f]] w1 fun r w' => r = .returned (.int .i64 q) ∧ Gr w1 w')) (h : ¬ a < b) (h' : ¬ b < a) (h0 : a ≠ 0) (hpq : ¬ p < q) (hqp : q < p) :
    Calls Tryz.prog 13 #[.agg #[.bool s, .slice ad1 n1 c1, .int .i64 e], .agg #[.bool t, .slice ad2 n2 c2, .int .i64 f]] w fun r w' => r = .returned (.int .i64 a) ∧ Gr w w' := by
  go_enter Tryz.func13, Tryz.ntmps13
  go_wp2
  obtain ⟨W0, hW0⟩ : ∃ W0, W0 = (w.alloc (.cells #[.bool s, .slice ad1 n1 c1, .int .i64 e] 36)).alloc (.cells #[.bool t, .slice ad2 n2 c2, .int .i64 f] 36) := ⟨_, rfl⟩
  rw [← hW0]
  have hS0 : (W0.drew.cell? ⟨w.heap.size, 0, none⟩ = some (.bool s) ∧ W0.drew.cell? ⟨w.heap.size, 1, none⟩ = some (.slice ad1 n1 c1) ∧ W0.drew.cell? ⟨w.heap.size, 2, none⟩ = some (.int .i64 e) ∧ W0.drew.cell? ⟨w.heap.size + 1, 0, none⟩ = some (.bool t) ∧ W0.drew.cell? ⟨w.heap.size + 1, 1, none⟩ = some (.slice ad2 n2 c2) ∧ W0.drew.cell? ⟨w.heap.size + 1, 2, none⟩ = some (.int .i64 f)) ∧ Gr w W0.drew := boxesQ w 36 _ _ _ _ _ _ W0 hW0
  clear hW0
  have tok : True := trivial
  go_region_held3 (fun w' => (w'.cell? ⟨w.heap.size, 0, none⟩ = some (.bool s) ∧ w'.cell? ⟨w.heap.size, 1, none⟩ = some (.slice ad1 n1 c1) ∧ w'.cell? ⟨w.heap.size, 2, none⟩ = some (.int .i64 e) ∧ w'.cell? ⟨w.heap.size + 1, 0, none⟩ = some (.bool t) ∧ w'.cell? ⟨w.heap.size + 1, 1, none⟩ = some (.slice ad2 n2 c2) ∧ w'.cell? ⟨w.heap.size + 1, 2, none⟩ = some (.int .i64 f)) ∧ Gr w w') (first | (with_reducible assumption) | (apply keep6R; (with_reducible assumption); (with_reducible assumption))) (first | (go_at_call 29; have _t := tok; refine (HS1.out _ (And.right ‹_ ∧ Gr w _›)).mono ?_; rintro r w1 ⟨rfl, g1⟩; clear tok) | (go_at_call 29; refine (HS2.out _ (And.right ‹_ ∧ Gr w _›)).mono ?_; rintro r w2 ⟨rfl, g2⟩))
  have hS2 := keep6R (g1.trans g2) hS0
  go_wp2
  have tokA : True := trivial
  have hS2d := keep6R (Gr.refl w2).drew hS2
  go_region_held3 (fun w' => (w'.cell? ⟨w.heap.size, 0, none⟩ = some (.bool s) ∧ w'.cell? ⟨w.heap.size, 1, none⟩ = some (.slice ad1 n1 c1) ∧ w'.cell? ⟨w.heap.size, 2, none⟩ = some (.int .i64 e) ∧ w'.cell? ⟨w.heap.size + 1, 0, none⟩ = some (.bool t) ∧ w'.cell? ⟨w.heap.size + 1, 1, none⟩ = some (.slice ad2 n2 c2) ∧ w'.cell? ⟨w.heap.size + 1, 2, none⟩ = some (.int .i64 f)) ∧ Gr w w') (first | (with_reducible assumption) | (apply keep6R; (with_reducible assumption); (with_reducible assumption))) (first | (go_at_call 30; have _t := tokA; refine (HT1.out _ (And.right ‹_ ∧ Gr w _›)).mono ?_; rintro r w3 ⟨rfl, gw3⟩; clear tokA) | (go_at_call 30; refine (HT2.out _ (And.right ‹_ ∧ Gr w _›)).mono ?_; rintro r w4 ⟨rfl, gw4⟩))
  have hSw4 := keep6R (gw3.trans gw4) hS2d
  go_wp2
  have tokB : True := trivial
  have hSw4d := keep6R (Gr.refl w4).drew hSw4
  go_region_held3 (fun w' => (w'.cell? ⟨w.heap.size, 0, none⟩ = some (.bool s) ∧ w'.cell? ⟨w.heap.size, 1, none⟩ = some (.slice ad1 n1 c1) ∧ w'.cell? ⟨w.heap.size, 2, none⟩ = some (.int .i64 e) ∧ w'.cell? ⟨w.heap.size + 1, 0, none⟩ = some (.bool t) ∧ w'.cell? ⟨w.heap.size + 1, 1, none⟩ = some (.slice ad2 n2 c2) ∧ w'.cell? ⟨w.heap.size + 1, 2, none⟩ = some (.int .i64 f)) ∧ Gr w w') (first | (with_reducible assumption) | (apply keep6R; (with_reducible assumption); (with_reducible assumption))) (first | (go_at_call 30; have _t := tokB; refine (HT1.out _ (And.right ‹_ ∧ Gr w _›)).mono ?_; rintro r w5 ⟨rfl, gw5⟩; clear tokB) | (go_at_call 30; refine (HT2.out _ (And.right ‹_ ∧ Gr w _›)).mono ?_; rintro r w6 ⟨rfl, gw6⟩))
  have hSw6 := keep6R (gw5.trans gw6) hSw4d
  go_wp2
  go_ret
  exact ⟨rfl, hSw6.2⟩

set_option maxHeartbeats 1600000 in
set_option maxRecDepth 10000 in
theorem cmp_6 (s t : Bool) (ad1 ad2 : Option Addr) (n1 n2 c1 c2 : Nat) (e f a b p q : Int) (w : World) (ha1 : -1 ≤ a) (ha2 : a ≤ 1) (hb1 : -1 ≤ b) (hb2 : b ≤ 1)
    (HS1 : Hid (∀ w1, Gr w w1 → Calls Tryz.prog 29 #[.agg #[.bool s, .slice ad1 n1 c1, .int .i64 e]] w1 fun r w' => r = .returned (.int .i64 a) ∧ Gr w1 w'))
    (HS2 : Hid (∀ w1, Gr w w1 → Calls Tryz.prog 29 #[.agg #[.bool t, .slice ad2 n2 c2, .int .i64 f]] w1 fun r w' => r = .returned (.int .i64 b) ∧ Gr w1 w'))
    (HT1 : Hid (∀ w1, Gr w w1 → Calls Tryz.prog 30 #[.agg #[.bool s, .slice ad1 n1 c1, .int .i64 e]] w1 fun r w' => r = .returned (.int .i64 p) ∧ Gr w1 w'))
    (HT2 : Hid (∀ w1, Gr w w1 → Calls Tryz.prog 30 #[.agg #[.bool t, .slice ad2 n2 c2, .int .i64 f]] w1 fun r w' => r = .returned (.int .i64 q) ∧ Gr w1 w')) (h : ¬ a < b) (h' : ¬ b < a) (h0 : a ≠ 0) (hpq : ¬ p < q) (hqp : ¬ q < p) (neg : Bool) (m : Nat) (g : Int) (bm : bl m ≤ 68719476736)
    (HL : Hid (∀ w1, Gr w w1 → Calls Tryz.prog 31 #[.agg #[.bool s, .slice ad1 n1 c1, .int .i64 e], .agg #[.bool t, .slice ad2 n2 c2, .int .i64 f]] w1 fun r w' => ∃ ad n cap, r = .returned (.agg #[.bool neg, .slice ad n cap, .int .i64 g]) ∧ Lim w' ad n cap 18446744073709551616 m ∧ Gr w1 w')) :
    Calls Tryz.prog 13 #[.agg #[.bool s, .slice ad1 n1 c1, .int .i64 e], .agg #[.bool t, .slice ad2 n2 c2, .int .i64 f]] w fun r w' => r = .returned (.int .i64 (sn neg m)) ∧ Gr w w' := by
  have BM : Hid (bl m ≤ 68719476736) := bm
  clear bm
  go_enter Tryz.func13, Tryz.ntmps13
  go_wp2
  obtain ⟨W0, hW0⟩ : ∃ W0, W0 = (w.alloc (.cells #[.bool s, .slice ad1 n1 c1, .int .i64 e] 36)).alloc (.cells #[.bool t, .slice ad2 n2 c2, .int .i64 f] 36) := ⟨_, rfl⟩
  rw [← hW0]
  have hS0 : (W0.drew.cell? ⟨w.heap.size, 0, none⟩ = some (.bool s) ∧ W0.drew.cell? ⟨w.heap.size, 1, none⟩ = some (.slice ad1 n1 c1) ∧ W0.drew.cell? ⟨w.heap.size, 2, none⟩ = some (.int .i64 e) ∧ W0.drew.cell? ⟨w.heap.size + 1, 0, none⟩ = some (.bool t) ∧ W0.drew.cell? ⟨w.heap.size + 1, 1, none⟩ = some (.slice ad2 n2 c2) ∧ W0.drew.cell? ⟨w.heap.size + 1, 2, none⟩ = some (.int .i64 f)) ∧ Gr w W0.drew := boxesQ w 36 _ _ _ _ _ _ W0 hW0
  clear hW0
  have tok : True := trivial
  go_region_held3 (fun w' => (w'.cell? ⟨w.heap.size, 0, none⟩ = some (.bool s) ∧ w'.cell? ⟨w.heap.size, 1, none⟩ = some (.slice ad1 n1 c1) ∧ w'.cell? ⟨w.heap.size, 2, none⟩ = some (.int .i64 e) ∧ w'.cell? ⟨w.heap.size + 1, 0, none⟩ = some (.bool t) ∧ w'.cell? ⟨w.heap.size + 1, 1, none⟩ = some (.slice ad2 n2 c2) ∧ w'.cell? ⟨w.heap.size + 1, 2, none⟩ = some (.int .i64 f)) ∧ Gr w w') (first | (with_reducible assumption) | (apply keep6R; (with_reducible assumption); (with_reducible assumption))) (first | (go_at_call 29; have _t := tok; refine (HS1.out _ (And.right ‹_ ∧ Gr w _›)).mono ?_; rintro r w1 ⟨rfl, g1⟩; clear tok) | (go_at_call 29; refine (HS2.out _ (And.right ‹_ ∧ Gr w _›)).mono ?_; rintro r w2 ⟨rfl, g2⟩))
  have hS2 := keep6R (g1.trans g2) hS0
  go_wp2
  have tokA : True := trivial
  have hS2d := keep6R (Gr.refl w2).drew hS2
  go_region_held3 (fun w' => (w'.cell? ⟨w.heap.size, 0, none⟩ = some (.bool s) ∧ w'.cell? ⟨w.heap.size, 1, none⟩ = some (.slice ad1 n1 c1) ∧ w'.cell? ⟨w.heap.size, 2, none⟩ = some (.int .i64 e) ∧ w'.cell? ⟨w.heap.size + 1, 0, none⟩ = some (.bool t) ∧ w'.cell? ⟨w.heap.size + 1, 1, none⟩ = some (.slice ad2 n2 c2) ∧ w'.cell? ⟨w.heap.size + 1, 2, none⟩ = some (.int .i64 f)) ∧ Gr w w') (first | (with_reducible assumption) | (apply keep6R; (with_reducible assumption); (with_reducible assumption))) (first | (go_at_call 30; have _t := tokA; refine (HT1.out _ (And.right ‹_ ∧ Gr w _›)).mono ?_; rintro r w3 ⟨rfl, gw3⟩; clear tokA) | (go_at_call 30; refine (HT2.out _ (And.right ‹_ ∧ Gr w _›)).mono ?_; rintro r w4 ⟨rfl, gw4⟩))
  have hSw4 := keep6R (gw3.trans gw4) hS2d
  go_wp2
  have tokB : True := trivial
  have hSw4d := keep6R (Gr.refl w4).drew hSw4
  go_region_held3 (fun w' => (w'.cell? ⟨w.heap.size, 0, none⟩ = some (.bool s) ∧ w'.cell? ⟨w.heap.size, 1, none⟩ = some (.slice ad1 n1 c1) ∧ w'.cell? ⟨w.heap.size, 2, none⟩ = some (.int .i64 e) ∧ w'.cell? ⟨w.heap.size + 1, 0, none⟩ = some (.bool t) ∧ w'.cell? ⟨w.heap.size + 1, 1, none⟩ = some (.slice ad2 n2 c2) ∧ w'.cell? ⟨w.heap.size + 1, 2, none⟩ = some (.int .i64 f)) ∧ Gr w w') (first | (with_reducible assumption) | (apply keep6R; (with_reducible assumption); (with_reducible assumption))) (first | (go_at_call 30; have _t := tokB; refine (HT1.out _ (And.right ‹_ ∧ Gr w _›)).mono ?_; rintro r w5 ⟨rfl, gw5⟩; clear tokB) | (go_at_call 30; refine (HT2.out _ (And.right ‹_ ∧ Gr w _›)).mono ?_; rintro r w6 ⟨rfl, gw6⟩))
  have hSw6 := keep6R (gw5.trans gw6) hSw4d
  go_wp2_with (first | (go_at_call 31; with_reducible refine (HL.out _ hSw6.2).mono ?_; rintro r w7 ⟨a7, m7, k7, rfl, hl7, g7⟩) | (go_at_call 29; refine (sign67 _ _ _ _ m _ _ hl7 BM.out).mono ?_; rintro r w8 ⟨rfl, g8⟩))
  go_ret
  exact ⟨rfl, (hSw6.2.trans g7).trans g8⟩

set_option maxRecDepth 10000 in
/-- HOW TWO NUMBERS STAND -/
theorem compare45 (s t : Bool) (ad1 ad2 : Option Addr) (n1 n2 c1 c2 x y : Nat) (e f : Int) (w : World) (hx : Lim w ad1 n1 c1 18446744073709551616 x) (hy : Lim w ad2 n2 c2 18446744073709551616 y) (bx : bl x ≤ 17179869184) (by' : bl y ≤ 17179869184) (e1 : -1000000000 ≤ e) (e2 : e ≤ 1000000000) (f1 : -1000000000 ≤ f) (f2 : f ≤ 1000000000) (K : Int) (hK1 : 0 ≤ e + K) (hK2 : 0 ≤ f + K) :
    Calls Tryz.prog 13 #[.agg #[.bool s, .slice ad1 n1 c1, .int .i64 e], .agg #[.bool t, .slice ad2 n2 c2, .int .i64 f]] w fun r w' => r = .returned (.int .i64 (sg (sv K s x e - sv K t y f))) ∧ Gr w w' := by
  have HS1 : Hid (∀ w1, Gr w w1 → Calls Tryz.prog 29 #[.agg #[.bool s, .slice ad1 n1 c1, .int .i64 e]] w1 fun r w' => r = .returned (.int .i64 (sn s x)) ∧ Gr w1 w') := fun w1 g => sign67 s ad1 n1 c1 x e w1 (hx.gr g) (by omega)
  have HS2 : Hid (∀ w1, Gr w w1 → Calls Tryz.prog 29 #[.agg #[.bool t, .slice ad2 n2 c2, .int .i64 f]] w1 fun r w' => r = .returned (.int .i64 (sn t y)) ∧ Gr w1 w') := fun w1 g => sign67 t ad2 n2 c2 y f w1 (hy.gr g) (by omega)
  have HT1 : Hid (∀ w1, Gr w w1 → Calls Tryz.prog 30 #[.agg #[.bool s, .slice ad1 n1 c1, .int .i64 e]] w1 fun r w' => r = .returned (.int .i64 (e + (bl x : Int))) ∧ Gr w1 w') := fun w1 g => top68 s ad1 n1 c1 x e w1 (hx.gr g) (by omega) (by omega) (by omega)
  have HT2 : Hid (∀ w1, Gr w w1 → Calls Tryz.prog 30 #[.agg #[.bool t, .slice ad2 n2 c2, .int .i64 f]] w1 fun r w' => r = .returned (.int .i64 (f + (bl y : Int))) ∧ Gr w1 w') := fun w1 g => top68 t ad2 n2 c2 y f w1 (hy.gr g) (by omega) (by omega) (by omega)
  have snb : ∀ (u : Bool) (z : Nat), -1 ≤ sn u z ∧ sn u z ≤ 1 := by
    intro u z
    unfold sn
    split
    · exact ⟨by decide, by decide⟩
    · cases u <;> exact ⟨by decide, by decide⟩
  have A := snb s x
  have B := snb t y
  have ga := sg_sv K s x e
  have gb := sg_sv K t y f
  have hsgn : ∀ (z : Int), (sg z = -1 ↔ z < 0) ∧ (sg z = 1 ↔ 0 < z) ∧ (sg z = 0 ↔ z = 0) := by
    intro z
    rcases Int.lt_trichotomy z 0 with h | h | h
    · rw [sg_neg h]; omega
    · subst h; rw [sg_zero]; omega
    · rw [sg_pos h]; omega
  have h1 := hsgn (sv K s x e)
  have h2 := hsgn (sv K t y f)
  rw [ga] at h1
  rw [gb] at h2
  by_cases c1' : sn s x < sn t y
  · have e' : sg (sv K s x e - sv K t y f) = -1 := sg_neg (by omega)
    rw [e']
    exact cmp_1 s t ad1 ad2 n1 n2 c1 c2 e f _ _ 0 0 w A.1 A.2 B.1 B.2 HS1 HS2 c1'
  · by_cases c2' : sn t y < sn s x
    · have e' : sg (sv K s x e - sv K t y f) = 1 := sg_pos (by omega)
      rw [e']
      exact cmp_2 s t ad1 ad2 n1 n2 c1 c2 e f _ _ 0 0 w A.1 A.2 B.1 B.2 HS1 HS2 c1' c2'
    · by_cases c3' : sn s x = 0
      · have e' : sg (sv K s x e - sv K t y f) = 0 := by
          rw [show sv K s x e - sv K t y f = 0 by omega]; rfl
        rw [e']
        exact cmp_3 s t ad1 ad2 n1 n2 c1 c2 e f _ _ 0 0 w A.1 A.2 B.1 B.2 HS1 HS2 c1' c2' c3'
      · have x0 : 0 < x := by
          refine Nat.pos_of_ne_zero fun h => c3' ?_
          unfold sn; rw [if_pos h]
        have hne : sn t y ≠ 0 := by omega
        have y0 : 0 < y := by
          refine Nat.pos_of_ne_zero fun h => hne ?_
          unfold sn; rw [if_pos h]
        have hst : s = t := by
          have hh : sn s x = sn t y := by omega
          unfold sn at hh
          rw [if_neg (show ¬ x = 0 by omega), if_neg (show ¬ y = 0 by omega)] at hh
          cases s <;> cases t <;> simp at hh ⊢
        subst hst
        have hsn : sn s x = if s then -1 else 1 := by unfold sn; rw [if_neg (by omega)]
        by_cases c4' : e + (bl x : Int) < f + (bl y : Int)
        · have e' := sg_top (s := s) x0 y0 hK1 hK2 c4'
          have e'' : sg (sv K s x e - sv K s y f) = - sn s x := by rw [e', hsn]; cases s <;> rfl
          rw [e'']
          exact cmp_4 s s ad1 ad2 n1 n2 c1 c2 e f _ _ _ _ w A.1 A.2 B.1 B.2 HS1 HS2 HT1 HT2 c1' c2' c3' c4'
        · by_cases c5' : f + (bl y : Int) < e + (bl x : Int)
          · have e' := sg_top' (s := s) x0 y0 hK1 hK2 c5'
            have e'' : sg (sv K s x e - sv K s y f) = sn s x := by rw [e', hsn]
            rw [e'']
            exact cmp_5 s s ad1 ad2 n1 n2 c1 c2 e f _ _ _ _ w A.1 A.2 B.1 B.2 HS1 HS2 HT1 HT2 c1' c2' c3' c4' c5'
          · obtain ⟨neg, m, g, k1, k2, k3, k4⟩ := less49 s s ad1 ad2 n1 n2 c1 c2 x y e f w hx hy bx by' e1 e2 f1 f2
            rw [← (k1 K hK1 hK2).2, sg_sv]
            exact cmp_6 s s ad1 ad2 n1 n2 c1 c2 e f _ _ _ _ w A.1 A.2 B.1 B.2 HS1 HS2 HT1 HT2 c1' c2' c3' c4' c5' neg m g (by omega) k4
end Go.Proofs.YtnjndegdhhmbaaaGreat
namespace Go.Proofs.YtnjndegdhhmbaaaGreat
open Go.RowKit
set_option linter.unusedVariables false

/-! an exact answer held against a float -/
end Go.Proofs.YtnjndegdhhmbaaaGreat
