import Derived.Test.YtobceegpcimdgaaQ24
import Derived.Test.YtobceegpcimdgaaQ25
namespace Go.Proofs.Ytobceegpcimdgaa
open Go.RowKit
set_option linter.unusedVariables false

/-! LentInt, KeptInt, SameInt of any two rows -/
def VL (B : Nat) (sg : Bool) (n : Nat) (xs : List Nat) (v : Value) (w : World) : Prop := ∃ g, v = .agg #[.bool sg, .slice (some ⟨g, 0, none⟩) n (n + 12)] ∧ w.ownsRow B 51 1 (.slice (some ⟨g, 0, none⟩) (n + 12) (n + 12)) (n + 12) (u64s (xs ++ ml 1 12))
theorem VL.gr {B : Nat} {sg : Bool} {n : Nat} {xs : List Nat} {v : Value} {w w' : World} (h : VL B sg n xs v w) (g : Gr w w') : VL B sg n xs v w' := by
  obtain ⟨b, h1, h2⟩ := h
  exact ⟨b, h1, g.owns h2⟩
theorem row_take {w : World} {ad : Option Addr} {N C : Nat} {xs ys : List Nat} (h : Row w ad N C (xs ++ ys)) {n : Nat} (hn : xs.length = n) : Row w ad n C xs := by
  have hl := h.len
  rw [List.length_append] at hl
  refine ⟨hn, by have := h.le; omega, h.max, h.nil, fun hp => ?_⟩
  obtain ⟨b, off, e, hb, hc⟩ := h.cells (by omega)
  refine ⟨b, off, e, hb, fun j hj => ?_⟩
  rw [hc j (by omega), getD_leftN (by omega)]
set_option maxHeartbeats 800000 in
theorem sameIntX (s : Bool) (ad1 ad2 : Option Addr) (n c1 c2 : Nat) (xs : List Nat) (w : World) (rx : Row w ad1 n c1 xs) (ry : Row w ad2 n c2 xs) :
    Calls Try.prog 19 #[.agg #[.bool s, .slice ad1 n c1], .agg #[.bool s, .slice ad2 n c2]] w fun r w' => r = .returned (.bool true) ∧ Gr w w' := by
  have GA : Gr w ((w.alloc (.cells #[.bool s, .slice ad1 n c1] 24)).alloc (.cells #[.bool s, .slice ad2 n c2] 24)) := ((Gr.refl w).alloc _).alloc _
  have SL : Hid (∀ w1, Gr w w1 → Calls Try.prog 42 #[.slice ad1 n c1, .slice ad2 n c2] w1 fun r w' => r = .returned (.bool true) ∧ Gr w1 w') := fun w1 g => sameLimbsT ad1 ad2 n c1 c2 xs w1 (rx.gr g) (ry.gr g)
  clear rx ry
  go_enter Try.func19, Try.ntmps19
  go_wp2_with (go_at_call 42; (with_reducible refine (SL.out _ GA).mono ?_); rintro r w1 ⟨rfl, g1⟩)
  go_ret
  exact ⟨rfl, GA.trans g1⟩
set_option maxHeartbeats 1600000 in
theorem keptInt (s : Bool) (g n c base : Nat) (ad : Option Addr) (xs : List Nat) (w : World) (hn : n ≤ 17592186044416) (hr : Row w ad n c xs) (hx : ∀ x ∈ xs, x < 18446744073709551616) (ho : w.ownsRow base 51 1 (.slice (some ⟨g, 0, none⟩) (n + 12) (n + 12)) (n + 12) (u64s (xs ++ ml 1 12))) :
    Calls Try.prog 14 #[.agg #[.bool s, .slice (some ⟨g, 0, none⟩) n (n + 12)], .agg #[.bool s, .slice ad n c]] w fun r w' => r = .returned (.bool true) ∧ Gr w w' := by
  have GA : Gr w ((w.alloc (.cells #[.bool s, .slice (some ⟨g, 0, none⟩) n (n + 12)] 24)).alloc (.cells #[.bool s, .slice ad n c] 24)) := ((Gr.refl w).alloc _).alloc _
  have SI : Hid (∀ w1, Gr w w1 → Calls Try.prog 19 #[.agg #[.bool s, .slice (some ⟨g, 0, none⟩) n (n + 12)], .agg #[.bool s, .slice ad n c]] w1 fun r w' => r = .returned (.bool true) ∧ Gr w1 w') := fun w1 g1 => sameIntX s _ ad n _ c xs w1 ((row_take (row_own ho) hr.len).gr g1) (hr.gr g1)
  have KL : Hid (∀ w1, Gr w w1 → Calls Try.prog 36 #[.slice (some ⟨g, 0, none⟩) n (n + 12), .slice ad n c] w1 fun r w' => r = .returned (.bool true) ∧ Gr w1 w') := fun w1 g1 => kept59 base g n c ad xs w1 hn (hr.gr g1) hx (g1.owns ho)
  have B2 := blk2 w (.cells #[.bool s, .slice (some ⟨g, 0, none⟩) n (n + 12)] 24) (.cells #[.bool s, .slice ad n c] 24)
  have S0 : Hid ((_ ∧ _ ∧ _ ∧ _) ∧ Gr w _) := ⟨⟨(bx2 B2.1).1, (bx2 B2.1).2, (bx2 B2.2).1, (bx2 B2.2).2⟩, GA⟩
  clear B2 hr hx ho
  go_enter Try.func14, Try.ntmps14
  go_wp2_with (first | (go_at_call 19; (with_reducible refine (SI.out _ GA).mono ?_); rintro r w1 ⟨rfl, g1⟩; have S1 := keepC4 g1 S0.out; have x0 := S1.1.1; have x1 := S1.1.2.1; have y0 := S1.1.2.2.1; have y1 := S1.1.2.2.2; have G1 := S1.2) | (go_at_call 36; (with_reducible refine (KL.out _ G1).mono ?_); rintro r w2 ⟨rfl, g2⟩))
  go_ret
  exact ⟨rfl, G1.trans g2⟩
set_option maxHeartbeats 1600000 in
theorem lentInt (s : Bool) (ad : Option Addr) (n c : Nat) (xs : List Nat) (w : World) (hn : n ≤ 17592186044416) (hr : Row w ad n c xs) :
    Calls Try.prog 9 #[.agg #[.bool s, .slice ad n c]] w fun e w' => ∃ v, e = .returned v ∧ VL w.heap.size s n xs v w' ∧ Gr w w' := by
  have GA : Gr w ((w.alloc (.cells #[.bool s, .slice ad n c] 24)).alloc (.cells #[.bool false, .slice none 0 0] 24)) := ((Gr.refl w).alloc _).alloc _
  have LL : Hid (Calls Try.prog 30 #[.slice ad n c] ((w.alloc (.cells #[.bool s, .slice ad n c] 24)).alloc (.cells #[.bool false, .slice none 0 0] 24)) fun r w' => ∃ g, r = .returned (.slice (some ⟨g, 0, none⟩) n (n + 12)) ∧ Hid (w'.ownsRow ((w.alloc (.cells #[.bool s, .slice ad n c] 24)).alloc (.cells #[.bool false, .slice none 0 0] 24)).heap.size 51 1 (.slice (some ⟨g, 0, none⟩) (n + 12) (n + 12)) (n + 12) (u64s (xs ++ ml 1 12))) ∧ Gr _ w') := lent37 ad n c xs _ hn (hr.gr GA)
  have B2 : Hid _ := blk2 w (.cells #[.bool s, .slice ad n c] 24) (.cells #[.bool false, .slice none 0 0] 24)
  clear hr
  go_enter Try.func9, Try.ntmps9
  go_wp2_with (go_at_call 30; (with_reducible refine LL.out.mono ?_); rintro r w1 ⟨g, rfl, OW, g1⟩; have hb1 := keepO g1 B2.out.1; have hb2 := keepO g1 B2.out.2; obtain ⟨k0, k1, k2, k3⟩ := Out2.of hb2; have hlt := lt_of_get2 hb2; obtain ⟨x0, x1⟩ := bx2 hb1; have f1 : w1.frozen? ⟨w.heap.size, 1, none⟩ = false := by simp [World.frozen?, hb1])
  have hge : w.heap.size + 1 + 1 ≤ g := by
    rcases OW.out.2 with ⟨e, _⟩ | ⟨b2, cap, cur, e, h3, _⟩
    · cases e
    · injection e with e
      injection e with e
      injection e with e
      rw [e]
      simpa using h3
  have hne : ∀ q, q < g → (Value.slice (some ⟨g, 0, none⟩) (n + 12) (n + 12)).ownBlock ≠ some q := fun q hq e => by simp [Value.ownBlock] at e; omega
  have O2 : Hid _ := owns_far (owns_far (owns_far (owns_low OW.out (show w.heap.size ≤ _ by simp; omega)) (hne w.heap.size (by omega)) 1 (.slice (some ⟨g, 0, none⟩) n (n + 12))) (hne (w.heap.size + 1) (by omega)) 0 (.bool s)) (hne (w.heap.size + 1) (by omega)) 1 (.slice (some ⟨g, 0, none⟩) n (n + 12))
  have far : ∀ i v, w1.cell? ⟨w.heap.size + 1, i, none⟩ = some v → (w1.setCell ⟨w.heap.size, 1, none⟩ (.slice (some ⟨g, 0, none⟩) n (n + 12))).cell? ⟨w.heap.size + 1, i, none⟩ = some v := fun i v h =>
    (World.cell?_of_block (w := w1) (a := ⟨w.heap.size + 1, i, none⟩) (Below.heap_setCell _ _ _ _ (by show w.heap.size + 1 ≠ w.heap.size; omega))).trans h
  obtain ⟨z0, z1⟩ := at2 (v0 := .bool s) (v1 := .slice (some ⟨g, 0, none⟩) n (n + 12)) (far _ _ k0) (far _ _ k1)
  refine bodyPost_ret (v := .agg #[.bool s, .slice (some ⟨g, 0, none⟩) n (n + 12)]) ?_ rfl ⟨_, rfl, ⟨g, rfl, O2.out⟩, (((GA.trans g1).setCell (p := ⟨w.heap.size, 1, none⟩) (by show _ ≤ w.heap.size; omega) _).setCell (p := ⟨w.heap.size + 1, 0, none⟩) (by show _ ≤ w.heap.size + 1; omega) _).setCell (p := ⟨w.heap.size + 1, 1, none⟩) (by show _ ≤ w.heap.size + 1; omega) _⟩
  simp [results, Try.results9, go_sem, z0, z1]
end Go.Proofs.Ytobceegpcimdgaa
