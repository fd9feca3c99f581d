import Derived.Test.YtniaelpbjgkfmaaDoorU16
import Derived.Test.YtniaelpbjgkfmaaDoorU17
import Derived.Test.YtniaelpbjgkfmaaDoorU11
namespace Go.Proofs.YtniaelpbjgkfmaaDoor
open Go.RowKit
set_option linter.unusedVariables false

/-! LentInt, KeptInt, SameInt of any two rows -/
theorem row_take {w : World} {ad : Option Addr} {N C : Nat} {xs ys : List Nat} (h : Row w ad N C (xs ++ ys)) {n : Nat} (hn : xs.length = n) : Row w ad n C xs := by
  have hl := h.len
  rw [List.length_append] at hl
  refine ⟨hn, by have := h.le; omega, h.max, h.nil, fun hp => ?_⟩
  obtain ⟨b, off, e, hb, hc⟩ := h.cells (by omega)
  refine ⟨b, off, e, hb, fun j hj => ?_⟩
  rw [hc j (by omega), getD_leftN (by omega)]
set_option maxHeartbeats 800000 in
theorem sameIntX (s : Bool) (ad1 ad2 : Option Addr) (n c1 c2 : Nat) (xs : List Nat) (w : World) (rx : Row w ad1 n c1 xs) (ry : Row w ad2 n c2 xs) :
    Calls Tryd.prog 14 #[.agg #[.bool s, .slice ad1 n c1], .agg #[.bool s, .slice ad2 n c2]] w fun r w' => r = .returned (.bool true) ∧ Gr w w' := by
  have GA : Gr w ((w.alloc (.cells #[.bool s, .slice ad1 n c1] 24)).alloc (.cells #[.bool s, .slice ad2 n c2] 24)) := ((Gr.refl w).alloc _).alloc _
  have SL : Hid (∀ w1, Gr w w1 → Calls Tryd.prog 38 #[.slice ad1 n c1, .slice ad2 n c2] w1 fun r w' => r = .returned (.bool true) ∧ Gr w1 w') := fun w1 g => sameLimbsT ad1 ad2 n c1 c2 xs w1 (rx.gr g) (ry.gr g)
  clear rx ry
  go_enter Tryd.func14, Tryd.ntmps14
  go_wp2_with (go_at_call 38; (with_reducible refine (SL.out _ GA).mono ?_); rintro r w1 ⟨rfl, g1⟩)
  go_ret
  exact ⟨rfl, GA.trans g1⟩
set_option maxHeartbeats 1600000 in
theorem keptInt (s : Bool) (g n c base : Nat) (ad : Option Addr) (xs : List Nat) (w : World) (hn : n ≤ 17592186044416) (hr : Row w ad n c xs) (hx : ∀ x ∈ xs, x < 18446744073709551616) (ho : w.ownsRow base 26 1 (.slice (some ⟨g, 0, none⟩) (n + 12) (n + 12)) (n + 12) (u64s (xs ++ ml 1 12))) :
    Calls Tryd.prog 30 #[.agg #[.bool s, .slice (some ⟨g, 0, none⟩) n (n + 12)], .agg #[.bool s, .slice ad n c]] w fun r w' => r = .returned (.bool true) ∧ Gr w w' := by
  have GA : Gr w ((w.alloc (.cells #[.bool s, .slice (some ⟨g, 0, none⟩) n (n + 12)] 24)).alloc (.cells #[.bool s, .slice ad n c] 24)) := ((Gr.refl w).alloc _).alloc _
  have SI : Hid (∀ w1, Gr w w1 → Calls Tryd.prog 14 #[.agg #[.bool s, .slice (some ⟨g, 0, none⟩) n (n + 12)], .agg #[.bool s, .slice ad n c]] w1 fun r w' => r = .returned (.bool true) ∧ Gr w1 w') := fun w1 g1 => sameIntX s _ ad n _ c xs w1 ((row_take (row_own ho) hr.len).gr g1) (hr.gr g1)
  have KL : Hid (∀ w1, Gr w w1 → Calls Tryd.prog 57 #[.slice (some ⟨g, 0, none⟩) n (n + 12), .slice ad n c] w1 fun r w' => r = .returned (.bool true) ∧ Gr w1 w') := fun w1 g1 => kept59 base g n c ad xs w1 hn (hr.gr g1) hx (g1.owns ho)
  have B2 := blk2 w (.cells #[.bool s, .slice (some ⟨g, 0, none⟩) n (n + 12)] 24) (.cells #[.bool s, .slice ad n c] 24)
  have S0 : Hid ((_ ∧ _ ∧ _ ∧ _) ∧ Gr w _) := ⟨⟨(bx2 B2.1).1, (bx2 B2.1).2, (bx2 B2.2).1, (bx2 B2.2).2⟩, GA⟩
  clear B2 hr hx ho
  go_enter Tryd.func30, Tryd.ntmps30
  go_wp2_with (first | (go_at_call 14; (with_reducible refine (SI.out _ GA).mono ?_); rintro r w1 ⟨rfl, g1⟩; have S1 := keepC4 g1 S0.out; have x0 := S1.1.1; have x1 := S1.1.2.1; have y0 := S1.1.2.2.1; have y1 := S1.1.2.2.2; have G1 := S1.2) | (go_at_call 57; (with_reducible refine (KL.out _ G1).mono ?_); rintro r w2 ⟨rfl, g2⟩))
  go_ret
  exact ⟨rfl, G1.trans g2⟩
set_option maxHeartbeats 1600000 in
theorem lentInt (s : Bool) (ad : Option Addr) (n c : Nat) (xs : List Nat) (w : World) (hn : n ≤ 17592186044416) (hr : Row w ad n c xs) :
    Calls Tryd.prog 23 #[.agg #[.bool s, .slice ad n c]] w fun e w' => ∃ v, e = .returned v ∧ VL w.heap.size s n xs v w' ∧ Gr w w' := by
  have GA : Gr w ((w.alloc (.cells #[.bool s, .slice ad n c] 24)).alloc (.cells #[.bool false, .slice none 0 0] 24)) := ((Gr.refl w).alloc _).alloc _
  have LL : Hid (Calls Tryd.prog 47 #[.slice ad n c] ((w.alloc (.cells #[.bool s, .slice ad n c] 24)).alloc (.cells #[.bool false, .slice none 0 0] 24)) fun r w' => ∃ g, r = .returned (.slice (some ⟨g, 0, none⟩) n (n + 12)) ∧ Hid (w'.ownsRow ((w.alloc (.cells #[.bool s, .slice ad n c] 24)).alloc (.cells #[.bool false, .slice none 0 0] 24)).heap.size 26 1 (.slice (some ⟨g, 0, none⟩) (n + 12) (n + 12)) (n + 12) (u64s (xs ++ ml 1 12))) ∧ Gr _ w') := lent37 ad n c xs _ hn (hr.gr GA)
  have B2 : Hid _ := blk2 w (.cells #[.bool s, .slice ad n c] 24) (.cells #[.bool false, .slice none 0 0] 24)
  clear hr
  go_enter Tryd.func23, Tryd.ntmps23
  go_wp2_with (go_at_call 47; (with_reducible refine LL.out.mono ?_); rintro r w1 ⟨g, rfl, OW, g1⟩; have hb1 := keepO g1 B2.out.1; have hb2 := keepO g1 B2.out.2; obtain ⟨k0, k1, k2, k3⟩ := Out2.of hb2; have hlt := lt_of_get2 hb2; obtain ⟨x0, x1⟩ := bx2 hb1; have f1 : w1.frozen? ⟨w.heap.size, 1, none⟩ = false := by simp [World.frozen?, hb1])
  have hge : w.heap.size + 1 + 1 ≤ g := by
    rcases OW.out.2 with ⟨e, _⟩ | ⟨b2, cap, cur, e, h3, _⟩
    · cases e
    · injection e with e
      injection e with e
      injection e with e
      rw [e]
      simpa using h3
  have hne : ∀ q, q < g → (Value.slice (some ⟨g, 0, none⟩) (n + 12) (n + 12)).ownBlock ≠ some q := fun q hq e => by simp [Value.ownBlock] at e; omega
  have O2 : Hid _ := owns_far (owns_far (owns_far (owns_low OW.out (show w.heap.size ≤ _ by simp; omega)) (hne w.heap.size (by omega)) 1 (.slice (some ⟨g, 0, none⟩) n (n + 12))) (hne (w.heap.size + 1) (by omega)) 0 (.bool s)) (hne (w.heap.size + 1) (by omega)) 1 (.slice (some ⟨g, 0, none⟩) n (n + 12))
  have far : ∀ i v, w1.cell? ⟨w.heap.size + 1, i, none⟩ = some v → (w1.setCell ⟨w.heap.size, 1, none⟩ (.slice (some ⟨g, 0, none⟩) n (n + 12))).cell? ⟨w.heap.size + 1, i, none⟩ = some v := fun i v h =>
    (World.cell?_of_block (w := w1) (a := ⟨w.heap.size + 1, i, none⟩) (Below.heap_setCell _ _ _ _ (by show w.heap.size + 1 ≠ w.heap.size; omega))).trans h
  obtain ⟨z0, z1⟩ := at2 (v0 := .bool s) (v1 := .slice (some ⟨g, 0, none⟩) n (n + 12)) (far _ _ k0) (far _ _ k1)
  refine bodyPost_ret (v := .agg #[.bool s, .slice (some ⟨g, 0, none⟩) n (n + 12)]) ?_ rfl ⟨_, rfl, ⟨g, rfl, O2.out⟩, (((GA.trans g1).setCell (p := ⟨w.heap.size, 1, none⟩) (by show _ ≤ w.heap.size; omega) _).setCell (p := ⟨w.heap.size + 1, 0, none⟩) (by show _ ≤ w.heap.size + 1; omega) _).setCell (p := ⟨w.heap.size + 1, 1, none⟩) (by show _ ≤ w.heap.size + 1; omega) _⟩
  simp [results, Tryd.results23, go_sem, z0, z1]
end Go.Proofs.YtniaelpbjgkfmaaDoor
namespace Go.Proofs.YtniaelpbjgkfmaaDoor
open Go.RowKit
set_option linter.unusedVariables false

theorem sameT {s t : Bool} {ad1 ad2 : Option Addr} {n1 n2 c1 c2 : Nat} {X Y : Int} {w : World} (e : X = Y) (hx : Wh w s ad1 n1 c1 X) (hy : Wh w t ad2 n2 c2 Y) :
    Calls Tryd.prog 14 #[.agg #[.bool s, .slice ad1 n1 c1], .agg #[.bool t, .slice ad2 n2 c2]] w fun r w' => r = .returned (.bool true) ∧ Gr w w' := by
  have := sameIntL s t ad1 ad2 n1 n2 c1 c2 X Y w hx hy
  rw [eqI_t e] at this
  exact this
end Go.Proofs.YtniaelpbjgkfmaaDoor
namespace Go.Proofs.YtniaelpbjgkfmaaDoor
open Go.RowKit
set_option linter.unusedVariables false

/-! what is told of two numbers, right or not: one answer, the program's and the document's -/
def zA (ok : Bool) (V : Int) : Int := if ok then (if V.natAbs < TopN then V else 0) else 0
def eA (ok : Bool) (V : Int) : Int := if ok then (if V.natAbs < TopN then 0 else 3) else 2
def eC (ok : Bool) : Int := if ok then 0 else 2
theorem ans_fit {V : Int} (h : V.natAbs < TopN) : zA true V = V ∧ eA true V = 0 := by unfold zA eA; simp [h]
theorem ans_far {V : Int} (h : TopN ≤ V.natAbs) : zA true V = 0 ∧ eA true V = 3 := by unfold zA eA; simp [Nat.not_lt.2 h]
def VV (s : Bool) (xs : List Nat) : Int := iv s (nv 18446744073709551616 xs)
end Go.Proofs.YtniaelpbjgkfmaaDoor
namespace Go.Proofs.YtniaelpbjgkfmaaDoor
open Go.RowKit
set_option linter.unusedVariables false

/-! one number: what is not right; the document's Neg and Bits -/
set_option maxHeartbeats 800000 in
theorem bitsN (s : Bool) (ad : Option Addr) (n cap : Nat) (xs : List Nat) (w : World) (rx : Row w ad n cap xs) (hn : rightN s xs = false) :
    Calls Tryd.prog 18 #[.agg #[.bool s, .slice ad n cap]] w fun r w' => r = .returned (.tuple #[.int .i64 0, .int .i64 2]) ∧ Gr w w' := by
  have RA : Hid (∀ w1, Gr w w1 → Calls Tryd.prog 21 #[.agg #[.bool s, .slice ad n cap]] w1 fun r w' => r = .returned (.bool false) ∧ Gr w1 w') := fun w1 g => by
    have := rightL s ad n cap xs w1 (rx.gr g)
    rw [hn] at this
    exact this
  clear rx hn
  have GA : Gr w (w.alloc (.cells #[.bool s, .slice ad n cap] 24)) := (Gr.refl w).alloc _
  go_enter Tryd.func18, Tryd.ntmps18
  go_wp2_with (go_at_call 21; (with_reducible refine (RA.out _ GA).mono ?_); rintro r w1 ⟨rfl, g1⟩)
  go_ret2
  exact ⟨rfl, GA.trans g1⟩
set_option maxHeartbeats 800000 in
theorem smallN (s : Bool) (ad : Option Addr) (n cap : Nat) (xs : List Nat) (w : World) (rx : Row w ad n cap xs) (hn : rightN s xs = false) :
    Calls Tryd.prog 11 #[.agg #[.bool s, .slice ad n cap]] w fun r w' => r = .returned (.tuple #[.int .i64 0, .bool false]) ∧ Gr w w' := by
  have RA : Hid (∀ w1, Gr w w1 → Calls Tryd.prog 21 #[.agg #[.bool s, .slice ad n cap]] w1 fun r w' => r = .returned (.bool false) ∧ Gr w1 w') := fun w1 g => by
    have := rightL s ad n cap xs w1 (rx.gr g)
    rw [hn] at this
    exact this
  clear rx hn
  have GA : Gr w (w.alloc (.cells #[.bool s, .slice ad n cap] 24)) := (Gr.refl w).alloc _
  go_enter Tryd.func11, Tryd.ntmps11
  go_wp2_with (go_at_call 21; (with_reducible refine (RA.out _ GA).mono ?_); rintro r w1 ⟨rfl, g1⟩)
  go_ret2
  exact ⟨rfl, GA.trans g1⟩
set_option maxHeartbeats 800000 in
theorem negN (s : Bool) (ad : Option Addr) (n cap : Nat) (xs : List Nat) (w : World) (rx : Row w ad n cap xs) (hn : rightN s xs = false) :
    Calls Tryd.prog 20 #[.agg #[.bool s, .slice ad n cap]] w fun r w' => r = .returned (.tuple #[.agg #[.bool false, .slice none 0 0], .int .i64 2]) ∧ Gr w w' := by
  have RA : Hid (∀ w1, Gr w w1 → Calls Tryd.prog 21 #[.agg #[.bool s, .slice ad n cap]] w1 fun r w' => r = .returned (.bool false) ∧ Gr w1 w') := fun w1 g => by
    have := rightL s ad n cap xs w1 (rx.gr g)
    rw [hn] at this
    exact this
  clear rx hn
  have GA : Gr w ((w.alloc (.cells #[.bool s, .slice ad n cap] 24)).alloc (.cells #[.bool false, .slice none 0 0] 24)) := ((Gr.refl w).alloc _).alloc _
  have HO : Hid (((w.alloc (.cells #[.bool s, .slice ad n cap] 24)).alloc (.cells #[.bool false, .slice none 0 0] 24)).heap[w.heap.size + 1]? = some (.cells #[.bool false, .slice none 0 0] 24)) := (blk2 w _ _).2
  go_enter Tryd.func20, Tryd.ntmps20
  go_wp2_with (go_at_call 21; (with_reducible refine (RA.out _ GA).mono ?_); rintro r w1 ⟨rfl, g1⟩; have hb6 := keepO g1 HO.out; obtain ⟨q0, q1, q2, q3⟩ := Out2.of hb6; have hlt := lt_of_get2 hb6)
  refine bodyPost_ret (v := .tuple #[.agg #[.bool false, .slice none 0 0], .int .i64 2]) ?_ rfl ⟨rfl, ((GA.trans g1).setCell (p := ⟨w.heap.size + 1, 0, none⟩) (by show _ ≤ w.heap.size + 1; omega) _).setCell (p := ⟨w.heap.size + 1, 1, none⟩) (by show _ ≤ w.heap.size + 1; omega) _⟩
  simp [results, Tryd.results20, go_sem, q0, q1]
set_option maxHeartbeats 800000 in
theorem shiftN (s : Bool) (ad : Option Addr) (n cap : Nat) (xs : List Nat) (w : World) (rx : Row w ad n cap xs) (hn : rightN s xs = false) (k : Int) :
    Calls Tryd.prog 17 #[.agg #[.bool s, .slice ad n cap], .int .i64 k] w fun r w' => r = .returned (.tuple #[.agg #[.bool false, .slice none 0 0], .int .i64 2]) ∧ Gr w w' := by
  have RA : Hid (∀ w1, Gr w w1 → Calls Tryd.prog 21 #[.agg #[.bool s, .slice ad n cap]] w1 fun r w' => r = .returned (.bool false) ∧ Gr w1 w') := fun w1 g => by
    have := rightL s ad n cap xs w1 (rx.gr g)
    rw [hn] at this
    exact this
  clear rx hn
  have GA : Gr w ((w.alloc (.cells #[.bool s, .slice ad n cap] 24)).alloc (.cells #[.bool false, .slice none 0 0] 24)) := ((Gr.refl w).alloc _).alloc _
  have HO : Hid (((w.alloc (.cells #[.bool s, .slice ad n cap] 24)).alloc (.cells #[.bool false, .slice none 0 0] 24)).heap[w.heap.size + 1]? = some (.cells #[.bool false, .slice none 0 0] 24)) := (blk2 w _ _).2
  go_enter Tryd.func17, Tryd.ntmps17
  go_wp2_with (go_at_call 21; (with_reducible refine (RA.out _ GA).mono ?_); rintro r w1 ⟨rfl, g1⟩; have hb6 := keepO g1 HO.out; obtain ⟨q0, q1, q2, q3⟩ := Out2.of hb6; have hlt := lt_of_get2 hb6)
  refine bodyPost_ret (v := .tuple #[.agg #[.bool false, .slice none 0 0], .int .i64 2]) ?_ rfl ⟨rfl, ((GA.trans g1).setCell (p := ⟨w.heap.size + 1, 0, none⟩) (by show _ ≤ w.heap.size + 1; omega) _).setCell (p := ⟨w.heap.size + 1, 1, none⟩) (by show _ ≤ w.heap.size + 1; omega) _⟩
  simp [results, Tryd.results17, go_sem, q0, q1]
set_option maxHeartbeats 800000 in
theorem refBitsN (s : Bool) (ad : Option Addr) (n cap : Nat) (xs : List Nat) (w : World) (rx : Row w ad n cap xs) (hn : rightN s xs = false) :
    Calls Tryd.prog 26 #[.agg #[.bool s, .slice ad n cap]] w fun r w' => r = .returned (.tuple #[.int .i64 0, .int .i64 2]) ∧ Gr w w' := by
  have RA : Hid (∀ w1, Gr w w1 → Calls Tryd.prog 28 #[.agg #[.bool s, .slice ad n cap]] w1 fun r w' => r = .returned (.bool false) ∧ Gr w1 w') := fun w1 g => by
    have := rightR s ad n cap xs w1 (rx.gr g)
    rw [hn] at this
    exact this
  clear rx hn
  have GA : Gr w (w.alloc (.cells #[.bool s, .slice ad n cap] 24)) := (Gr.refl w).alloc _
  go_enter Tryd.func26, Tryd.ntmps26
  go_wp2_with (go_at_call 28; (with_reducible refine (RA.out _ GA).mono ?_); rintro r w1 ⟨rfl, g1⟩)
  go_ret2
  exact ⟨rfl, GA.trans g1⟩
set_option maxHeartbeats 800000 in
theorem refSmallN (s : Bool) (ad : Option Addr) (n cap : Nat) (xs : List Nat) (w : World) (rx : Row w ad n cap xs) (hn : rightN s xs = false) :
    Calls Tryd.prog 24 #[.agg #[.bool s, .slice ad n cap]] w fun r w' => r = .returned (.tuple #[.int .i64 0, .bool false]) ∧ Gr w w' := by
  have RA : Hid (∀ w1, Gr w w1 → Calls Tryd.prog 28 #[.agg #[.bool s, .slice ad n cap]] w1 fun r w' => r = .returned (.bool false) ∧ Gr w1 w') := fun w1 g => by
    have := rightR s ad n cap xs w1 (rx.gr g)
    rw [hn] at this
    exact this
  clear rx hn
  have GA : Gr w (w.alloc (.cells #[.bool s, .slice ad n cap] 24)) := (Gr.refl w).alloc _
  go_enter Tryd.func24, Tryd.ntmps24
  go_wp2_with (go_at_call 28; (with_reducible refine (RA.out _ GA).mono ?_); rintro r w1 ⟨rfl, g1⟩)
  go_ret2
  exact ⟨rfl, GA.trans g1⟩
set_option maxHeartbeats 800000 in
theorem refNegN (s : Bool) (ad : Option Addr) (n cap : Nat) (xs : List Nat) (w : World) (rx : Row w ad n cap xs) (hn : rightN s xs = false) :
    Calls Tryd.prog 25 #[.agg #[.bool s, .slice ad n cap]] w fun r w' => r = .returned (.tuple #[.agg #[.bool false, .slice none 0 0], .int .i64 2]) ∧ Gr w w' := by
  have RA : Hid (∀ w1, Gr w w1 → Calls Tryd.prog 28 #[.agg #[.bool s, .slice ad n cap]] w1 fun r w' => r = .returned (.bool false) ∧ Gr w1 w') := fun w1 g => by
    have := rightR s ad n cap xs w1 (rx.gr g)
    rw [hn] at this
    exact this
  clear rx hn
  have GA : Gr w ((w.alloc (.cells #[.bool s, .slice ad n cap] 24)).alloc (.cells #[.bool false, .slice none 0 0] 24)) := ((Gr.refl w).alloc _).alloc _
  have HO : Hid (((w.alloc (.cells #[.bool s, .slice ad n cap] 24)).alloc (.cells #[.bool false, .slice none 0 0] 24)).heap[w.heap.size + 1]? = some (.cells #[.bool false, .slice none 0 0] 24)) := (blk2 w _ _).2
  go_enter Tryd.func25, Tryd.ntmps25
  go_wp2_with (go_at_call 28; (with_reducible refine (RA.out _ GA).mono ?_); rintro r w1 ⟨rfl, g1⟩; have hb6 := keepO g1 HO.out; obtain ⟨q0, q1, q2, q3⟩ := Out2.of hb6; have hlt := lt_of_get2 hb6)
  refine bodyPost_ret (v := .tuple #[.agg #[.bool false, .slice none 0 0], .int .i64 2]) ?_ rfl ⟨rfl, ((GA.trans g1).setCell (p := ⟨w.heap.size + 1, 0, none⟩) (by show _ ≤ w.heap.size + 1; omega) _).setCell (p := ⟨w.heap.size + 1, 1, none⟩) (by show _ ≤ w.heap.size + 1; omega) _⟩
  simp [results, Tryd.results25, go_sem, q0, q1]
set_option maxHeartbeats 800000 in
theorem refShiftN (s : Bool) (ad : Option Addr) (n cap : Nat) (xs : List Nat) (w : World) (rx : Row w ad n cap xs) (hn : rightN s xs = false) (k : Int) :
    Calls Tryd.prog 27 #[.agg #[.bool s, .slice ad n cap], .int .i64 k] w fun r w' => r = .returned (.tuple #[.agg #[.bool false, .slice none 0 0], .int .i64 2]) ∧ Gr w w' := by
  have RA : Hid (∀ w1, Gr w w1 → Calls Tryd.prog 28 #[.agg #[.bool s, .slice ad n cap]] w1 fun r w' => r = .returned (.bool false) ∧ Gr w1 w') := fun w1 g => by
    have := rightR s ad n cap xs w1 (rx.gr g)
    rw [hn] at this
    exact this
  clear rx hn
  have GA : Gr w ((w.alloc (.cells #[.bool s, .slice ad n cap] 24)).alloc (.cells #[.bool false, .slice none 0 0] 24)) := ((Gr.refl w).alloc _).alloc _
  have HO : Hid (((w.alloc (.cells #[.bool s, .slice ad n cap] 24)).alloc (.cells #[.bool false, .slice none 0 0] 24)).heap[w.heap.size + 1]? = some (.cells #[.bool false, .slice none 0 0] 24)) := (blk2 w _ _).2
  go_enter Tryd.func27, Tryd.ntmps27
  go_wp2_with (go_at_call 28; (with_reducible refine (RA.out _ GA).mono ?_); rintro r w1 ⟨rfl, g1⟩; have hb6 := keepO g1 HO.out; obtain ⟨q0, q1, q2, q3⟩ := Out2.of hb6; have hlt := lt_of_get2 hb6)
  refine bodyPost_ret (v := .tuple #[.agg #[.bool false, .slice none 0 0], .int .i64 2]) ?_ rfl ⟨rfl, ((GA.trans g1).setCell (p := ⟨w.heap.size + 1, 0, none⟩) (by show _ ≤ w.heap.size + 1; omega) _).setCell (p := ⟨w.heap.size + 1, 1, none⟩) (by show _ ≤ w.heap.size + 1; omega) _⟩
  simp [results, Tryd.results27, go_sem, q0, q1]
set_option maxHeartbeats 800000 in
theorem refBits (s : Bool) (ad : Option Addr) (n cap : Nat) (X : Int) (w : World) (hx : Wh w s ad n cap X) :
    Calls Tryd.prog 26 #[.agg #[.bool s, .slice ad n cap]] w fun r w' => r = .returned (.tuple #[.int .i64 (bl X.natAbs : Int), .int .i64 0]) ∧ Gr w w' := by
  have RA : Hid (∀ w1, Gr w w1 → Calls Tryd.prog 28 #[.agg #[.bool s, .slice ad n cap]] w1 fun r w' => r = .returned (.bool true) ∧ Gr w1 w') := fun w1 g => by
    obtain ⟨xs, rx, dx, hR⟩ := hx.right
    have := rightR s ad n cap xs w1 (rx.gr g)
    rw [rightN_t hR] at this
    exact this
  have HL : Hid (∀ w1, Gr w w1 → Calls Tryd.prog 54 #[.slice ad n cap] w1 fun r w' => r = .returned (.int .i64 (bl X.natAbs : Int)) ∧ Gr w1 w') := fun w1 g => bits73 ad n cap _ w1 (hx.lim.gr g) (by have := hx.bl; omega)
  clear hx
  have GA : Gr w (w.alloc (.cells #[.bool s, .slice ad n cap] 24)) := (Gr.refl w).alloc _
  have B1 := bx2 (blk1 w (.cells #[.bool s, .slice ad n cap] 24))
  go_enter Tryd.func26, Tryd.ntmps26
  go_wp2_with (first | (go_at_call 28; (with_reducible refine (RA.out _ GA).mono ?_); rintro r w1 ⟨rfl, g1⟩; have x0 := keepG g1 B1.1; have x1 := keepG g1 B1.2) | (go_at_call 54; (with_reducible refine (HL.out _ (GA.trans g1)).mono ?_); rintro r w2 ⟨rfl, g2⟩))
  go_ret2
  exact ⟨rfl, (GA.trans g1).trans g2⟩
set_option maxHeartbeats 3200000 in
theorem refNeg (s : Bool) (ad : Option Addr) (n cap : Nat) (X : Int) (w : World) (hx : Wh w s ad n cap X) :
    Calls Tryd.prog 25 #[.agg #[.bool s, .slice ad n cap]] w fun r w' => ∃ a b c d e, r = .returned (.tuple #[.agg #[.bool a, .slice b c d], .int .i64 e]) ∧ Hid (TolR w' a b c d e (-X)) ∧ Gr w w' := by
  have RA : Hid (∀ w1, Gr w w1 → Calls Tryd.prog 28 #[.agg #[.bool s, .slice ad n cap]] w1 fun r w' => r = .returned (.bool true) ∧ Gr w1 w') := fun w1 g => by
    obtain ⟨xs, rx, dx, hR⟩ := hx.right
    have := rightR s ad n cap xs w1 (rx.gr g)
    rw [rightN_t hR] at this
    exact this
  have IA : Hid (∀ w1, Gr w w1 → Calls Tryd.prog 48 #[.agg #[.bool s, .slice ad n cap]] w1 fun r w' => ∃ b c d, r = .returned (.agg #[.bool s, .slice b c d, .int .i64 0]) ∧ Hid (Lim w' b c d 18446744073709551616 X.natAbs) ∧ Gr w1 w') := fun w1 g => intR s ad n cap X w1 (hx.gr g)
  have PX : Hid (bl X.natAbs ≤ 68719476736) := by show _ ≤ _; have := hx.bl; omega
  have E : Hid (iv (!s) X.natAbs = -X) := by show _ = _; rw [iv_not, iv_val hx]
  clear hx
  have GA : Gr w ((w.alloc (.cells #[.bool s, .slice ad n cap] 24)).alloc (.cells #[.bool false, .slice none 0 0] 24)) := ((Gr.refl w).alloc _).alloc _
  have S0 : Hid _ := blk2 w (.cells #[.bool s, .slice ad n cap] 24) (.cells #[.bool false, .slice none 0 0] 24)
  go_enter Tryd.func25, Tryd.ntmps25
  go_wp2_with (first | (go_at_call 28; (with_reducible refine (RA.out _ GA).mono ?_); rintro r w1 ⟨rfl, g1⟩; have x0 := (bx2 (keepO g1 S0.out.1)).1; have x1 := (bx2 (keepO g1 S0.out.1)).2; have G1 := GA.trans g1) | (go_at_call 48; (with_reducible refine (IA.out _ G1).mono ?_); rintro r w2 ⟨b2, k2, d2, rfl, L2, g2⟩) | (go_at_call 53; (with_reducible refine (minus70 _ _ _ _ _ _).mono ?_); rintro r w3 ⟨rfl, g3⟩) | (go_at_call 52; (with_reducible refine (toldR _ _ _ _ _ _ (L2.out.gr g3) PX.out).mono ?_); rintro r w5 ⟨a6, b6, c6, d6, e6, rfl, T6, g5⟩; have hb6 := keepO g5 (keepO g3 (keepO g2 (keepO g1 S0.out.2))); obtain ⟨q0, q1, q2, q3⟩ := Out2.of hb6; have hlt := lt_of_get2 hb6))
  have GF : Gr w w5 := ((G1.trans g2).trans g3).trans g5
  have T7 := T6.out.out2 hb6 (.bool a6) (.slice b6 c6 d6)
  rw [E.out] at T7
  refine bodyPost_ret (v := .tuple #[.agg #[.bool a6, .slice b6 c6 d6], .int .i64 e6]) ?_ rfl ⟨a6, b6, c6, d6, e6, rfl, T7, (GF.setCell (p := ⟨w.heap.size + 1, 0, none⟩) (by show _ ≤ w.heap.size + 1; omega) _).setCell (p := ⟨w.heap.size + 1, 1, none⟩) (by show _ ≤ w.heap.size + 1; omega) _⟩
  simp [results, Tryd.results25, go_sem, q0, q1]
end Go.Proofs.YtniaelpbjgkfmaaDoor
namespace Go.Proofs.YtniaelpbjgkfmaaDoor
open Go.RowKit
set_option linter.unusedVariables false

/-! the document's NatOf, Whole, Scaled, Of -/
theorem natOfR (x : Nat) (w : World) (hx : x < 18446744073709551616) :
    Calls Tryd.prog 73 #[.int .u64 (x : Int)] w fun e w' => ∃ ad n cap, e = .returned (.slice ad n cap) ∧ Lim w' ad n cap 18446744073709551616 x ∧ Gr w w' := by
  have hrow : Row (w.alloc (.cells #[.int .u64 (x : Int)] 26)) (some ⟨w.heap.size, 0, none⟩) 1 1 [x] := by
    refine ⟨rfl, Nat.le_refl _, by omega, (fun h => by cases h), fun _ => ⟨w.heap.size, 0, rfl, by simp, fun j hj => ?_⟩⟩
    obtain rfl : j = 0 := by omega
    simp
  have T := trim77 _ 1 1 [x] _ hrow (by omega) (by simpa using hx)
  have e : nv 18446744073709551616 [x] = x := by simp [nv]
  rw [e] at T
  have H : Hid (Calls Tryd.prog 61 #[.slice (some ⟨w.heap.size, 0, none⟩) 1 1] (w.alloc (.cells #[.int .u64 (x : Int)] 26)) fun e w' => ∃ ad' n' cap', e = .returned (.slice ad' n' cap') ∧ Lim w' ad' n' cap' 18446744073709551616 x ∧ Gr (w.alloc (.cells #[.int .u64 (x : Int)] 26)) w') := T
  have G : Gr w (w.alloc (.cells #[.int .u64 (x : Int)] 26)) := (Gr.refl w).alloc _
  clear hrow T e
  go_enter Tryd.func73, Tryd.ntmps73
  go_wp2_with (go_at_call 61; (with_reducible refine H.out.mono ?_); rintro e w1 ⟨a1, n1, k1, rfl, hl, g⟩)
  go_ret
  exact ⟨_, _, _, rfl, hl, G.trans g⟩
set_option maxHeartbeats 1600000 in
theorem whole24n (v : Nat) (n : Int) (w : World) (hn : n < 0) (hv : Hid (n = -(v : Int))) (h2 : v ≤ 9223372036854775808) :
    Calls Tryd.prog 50 #[.int .i64 n] w fun r w' => ∃ ad m cap, r = .returned (.agg #[.bool true, .slice ad m cap, .int .i64 0]) ∧ Lim w' ad m cap 18446744073709551616 v ∧ Gr w w' := by
  have HN : Hid (∀ w1, Calls Tryd.prog 73 #[.int .u64 (v : Int)] w1 fun e w' => ∃ ad' n' cap', e = .returned (.slice ad' n' cap') ∧ Lim w' ad' n' cap' 18446744073709551616 v ∧ Gr w1 w') := fun w1 => natOfR v w1 (by omega)
  have hw : Hid (IntKind.u64.wrap (-IntKind.u64.wrap n) = (v : Int)) := by
    have := hv.out
    show _ = _
    simp only [IntKind.wrap_u64]; omega
  clear h2
  go_enter Tryd.func50, Tryd.ntmps50
  go_wp2_with (go_at_call 73; rw [hw.out]; (with_reducible refine (HN.out _).mono ?_); rintro r w1 ⟨a3, m3, k3, rfl, hl3, g3⟩; have hb1 := (g3.block w.heap.size (by simp)).trans (heap_alloc_new w _); have hc1 := num_block hb1)
  refine bodyPost_ret (v := .agg #[.bool true, .slice a3 m3 k3, .int .i64 0]) (by simp [results, Tryd.results50, go_sem, hc1]) rfl ⟨a3, m3, k3, rfl, hl3.set3 (hl3.apart hb1) _ _ _, set3_gr (((Gr.refl w).alloc _).trans g3) (Nat.le_refl _) _ _ _⟩
set_option maxHeartbeats 1600000 in
theorem whole24p (v : Nat) (n : Int) (w : World) (hn : ¬ n < 0) (hv : Hid (n = (v : Int))) (h2 : v ≤ 9223372036854775808) :
    Calls Tryd.prog 50 #[.int .i64 n] w fun r w' => ∃ ad m cap, r = .returned (.agg #[.bool false, .slice ad m cap, .int .i64 0]) ∧ Lim w' ad m cap 18446744073709551616 v ∧ Gr w w' := by
  have HN : Hid (∀ w1, Calls Tryd.prog 73 #[.int .u64 (v : Int)] w1 fun e w' => ∃ ad' n' cap', e = .returned (.slice ad' n' cap') ∧ Lim w' ad' n' cap' 18446744073709551616 v ∧ Gr w1 w') := fun w1 => natOfR v w1 (by omega)
  have hw : Hid (IntKind.u64.wrap n = (v : Int)) := by
    have := hv.out
    show _ = _
    simp only [IntKind.wrap_u64]; omega
  clear h2
  go_enter Tryd.func50, Tryd.ntmps50
  go_wp2_with (go_at_call 73; rw [hw.out]; (with_reducible refine (HN.out _).mono ?_); rintro r w1 ⟨a3, m3, k3, rfl, hl3, g3⟩; have hb1 := (g3.block w.heap.size (by simp)).trans (heap_alloc_new w _); have hc1 := num_block hb1)
  refine bodyPost_ret (v := .agg #[.bool false, .slice a3 m3 k3, .int .i64 0]) (by simp [results, Tryd.results50, go_sem, hc1]) rfl ⟨a3, m3, k3, rfl, hl3.set3 (hl3.apart hb1) _ _ _, set3_gr (((Gr.refl w).alloc _).trans g3) (Nat.le_refl _) _ _ _⟩
set_option maxHeartbeats 1600000 in
/-- a number, scaled -/
theorem scaled38 (s : Bool) (ad : Option Addr) (n cap x : Nat) (e p : Int) (w : World) (hx : Lim w ad n cap 18446744073709551616 x) (e1 : -1048576 ≤ e) (e2 : e ≤ 1048576) (p1 : -2147483648 ≤ p) (p2 : p ≤ 2147483648) :
    Calls Tryd.prog 55 #[.agg #[.bool s, .slice ad n cap, .int .i64 e], .int .i64 p] w fun r w' => r = .returned (.agg #[.bool s, .slice ad n cap, .int .i64 (e + p)]) ∧ Lim w' ad n cap 18446744073709551616 x ∧ Gr w w' := by
  have H : Hid (Lim w ad n cap 18446744073709551616 x) := hx
  clear hx
  go_enter Tryd.func55, Tryd.ntmps55
  go_wp2
  have G : Gr w ((w.alloc (.cells #[.bool s, .slice ad n cap, .int .i64 e] 65)).alloc (.cells #[.bool s, .slice ad n cap, .int .i64 (e + p)] 65)) := gr2 _ _
  refine bodyPost_ret (v := .agg #[.bool s, .slice ad n cap, .int .i64 (e + p)]) (by simp [results, Tryd.results55, go_sem]) rfl ⟨rfl, H.out.gr G, G⟩
theorem wholeQ (z : Int) (w : World) (h1 : -9223372036854775808 ≤ z) (h2 : z ≤ 9223372036854775807) : Calls Tryd.prog 50 #[.int .i64 z] w fun r w' => ∃ s ad n cap, r = .returned (.agg #[.bool s, .slice ad n cap, .int .i64 0]) ∧ Hid (Lim w' ad n cap 18446744073709551616 z.natAbs) ∧ Hid (iv s z.natAbs = z) ∧ Gr w w' := by
  by_cases h : z < 0
  · refine (whole24n z.natAbs z w h (by show z = _; omega) (by omega)).mono ?_
    rintro r w' ⟨ad, n, cap, rfl, l, g⟩
    exact ⟨true, ad, n, cap, rfl, l, by show _ = _; rw [iv_t]; omega, g⟩
  · refine (whole24p z.natAbs z w h (by show z = _; omega) (by omega)).mono ?_
    rintro r w' ⟨ad, n, cap, rfl, l, g⟩
    exact ⟨false, ad, n, cap, rfl, l, by show _ = _; rw [iv_f]; omega, g⟩
theorem bl_64 {z : Nat} (h : z ≤ 9223372036854775808) : bl z ≤ 64 := bl_le_of_lt (by omega)
set_option maxHeartbeats 1600000 in
theorem refOf (z : Int) (w : World) (h1 : -9223372036854775808 ≤ z) (h2 : z ≤ 9223372036854775807) :
    Calls Tryd.prog 29 #[.int .i64 z] w fun r w' => ∃ a b c d, r = .returned (.agg #[.bool a, .slice b c d]) ∧ Hid (Wh w' a b c d z) ∧ Gr w w' := by
  have HW : Hid (∀ w1, Calls Tryd.prog 50 #[.int .i64 z] w1 fun r w' => ∃ s ad n cap, r = .returned (.agg #[.bool s, .slice ad n cap, .int .i64 0]) ∧ Hid (Lim w' ad n cap 18446744073709551616 z.natAbs) ∧ Hid (iv s z.natAbs = z) ∧ Gr w1 w') := fun w1 => wholeQ z w1 h1 h2
  have HB : Hid (bl z.natAbs ≤ 68719476736) := by show _ ≤ _; have := bl_64 (z := z.natAbs) (by omega); omega
  have HF : Hid (z.natAbs < TopN) := small_top (by omega)
  clear h1 h2
  have TL : Hid (∀ (s : Bool) (ad : Option Addr) (n cap : Nat) (w1 : World), Lim w1 ad n cap 18446744073709551616 z.natAbs → iv s z.natAbs = z → Calls Tryd.prog 52 #[.agg #[.bool s, .slice ad n cap, .int .i64 0]] w1 fun r w' => ∃ a b c d, r = .returned (.tuple #[.agg #[.bool a, .slice b c d], .int .i64 0]) ∧ Hid (Wh w' a b c d z) ∧ Gr w1 w') := fun s ad n cap w1 hl hv => by
    refine (toldR s ad n cap _ w1 hl HB.out).mono ?_
    rintro r w' ⟨a, b, c, d, e, k1, k2, k3⟩
    rw [hv] at k2
    rcases k2.out with ⟨_, rfl, k4⟩ | ⟨k4, _⟩
    · exact ⟨a, b, c, d, k1, k4, k3⟩
    · exact absurd HF.out (Nat.not_lt.2 k4)
  have GA : Gr w (w.alloc (.cells #[.bool false, .slice none 0 0] 24)) := (Gr.refl w).alloc _
  have HO : Hid _ := blk1 w (.cells #[.bool false, .slice none 0 0] 24)
  go_enter Tryd.func29, Tryd.ntmps29
  go_wp2_with (first | (go_at_call 50; (with_reducible refine (HW.out _).mono ?_); rintro r w1 ⟨s1, a1, n1, c1, rfl, L1, V1, g1⟩) | (go_at_call 52; (with_reducible refine (TL.out _ _ _ _ _ L1.out V1.out).mono ?_); rintro r w2 ⟨a6, b6, c6, d6, rfl, T6, g2⟩; have hb6 := keepO ((Gr.refl _).alloc (.cells #[.bool a6, .slice b6 c6 d6] 24)) (keepO g2 (keepO g1 HO.out)); obtain ⟨q0, q1, q2, q3⟩ := Out2.of hb6; have hlt := lt_of_get2 hb6))
  have GF : Gr w (w2.alloc (.cells #[.bool a6, .slice b6 c6 d6] 24)) := ((GA.trans g1).trans g2).alloc _
  have T7 := (T6.out.gr ((Gr.refl _).alloc (.cells #[.bool a6, .slice b6 c6 d6] 24))).out2 hb6 (.bool a6) (.slice b6 c6 d6)
  refine bodyPost_ret (v := .agg #[.bool a6, .slice b6 c6 d6]) ?_ rfl ⟨a6, b6, c6, d6, rfl, T7, (GF.setCell (p := ⟨w.heap.size, 0, none⟩) (by show _ ≤ w.heap.size; omega) _).setCell (p := ⟨w.heap.size, 1, none⟩) (by show _ ≤ w.heap.size; omega) _⟩
  simp [results, Tryd.results29, go_sem, q0, q1]
end Go.Proofs.YtniaelpbjgkfmaaDoor
