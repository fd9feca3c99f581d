import Derived.Test.YtniaelpbjgkfmaaDoorU20
import Derived.Test.YtniaelpbjgkfmaaDoorU18
import Derived.Deep.RegionHeld3
namespace Go.Proofs.YtniaelpbjgkfmaaDoor
open Go.RowKit
set_option linter.unusedVariables false

set_option maxRecDepth 20000 in
set_option maxHeartbeats 6400000 in
theorem refSmallL (s : Bool) (ad : Option Addr) (n cap : Nat) (X : Int) (w : World) (hx : Wh w s ad n cap X) (h1 : X < -9223372036854775808) :
    Calls Tryd.prog 24 #[.agg #[.bool s, .slice ad n cap]] w fun r w' => r = .returned (.tuple #[.int .i64 (smI X), .bool (smB X)]) ∧ Gr w w' := by
  have RA : Hid (∀ w1, Gr w w1 → Calls Tryd.prog 28 #[.agg #[.bool s, .slice ad n cap]] w1 fun r w' => r = .returned (.bool true) ∧ Gr w1 w') := fun w1 g => by
    obtain ⟨xs, rx, dx, hR⟩ := hx.right
    have := rightR s ad n cap xs w1 (rx.gr g)
    rw [rightN_t hR] at this
    exact this
  have IA : Hid (∀ w1, Gr w w1 → Calls Tryd.prog 48 #[.agg #[.bool s, .slice ad n cap]] w1 fun r w' => ∃ b c d, r = .returned (.agg #[.bool s, .slice b c d, .int .i64 0]) ∧ Hid (Lim w' b c d 18446744073709551616 X.natAbs) ∧ Gr w1 w') := fun w1 g => intR s ad n cap X w1 (hx.gr g)
  have hbl := hx.bl
  have hv := iv_val hx
  have WL : Hid (∀ w1, Calls Tryd.prog 50 #[.int .i64 (-9223372036854775808)] w1 fun r w' => ∃ t a m c, r = .returned (.agg #[.bool t, .slice a m c, .int .i64 0]) ∧ Hid (Lim w' a m c 18446744073709551616 ((-9223372036854775808) : Int).natAbs) ∧ Hid (iv t ((-9223372036854775808) : Int).natAbs = -9223372036854775808) ∧ Gr w1 w') := fun w1 => wholeQ (-9223372036854775808) w1 (by omega) (by omega)
  have CL : Hid (∀ (b2 a : Option Addr) (k2 d2 m c : Nat) (t : Bool) (w1 : World), Lim w1 b2 k2 d2 18446744073709551616 X.natAbs → Lim w1 a m c 18446744073709551616 ((-9223372036854775808) : Int).natAbs → iv t ((-9223372036854775808) : Int).natAbs = -9223372036854775808 → Calls Tryd.prog 49 #[.agg #[.bool s, .slice b2 k2 d2, .int .i64 0], .agg #[.bool t, .slice a m c, .int .i64 0]] w1 fun r w' => r = .returned (.int .i64 (sg (X - (-9223372036854775808)))) ∧ Gr w1 w') := fun b2 a k2 d2 m c t w1 h1 h2 h3 => by
    have := compareW s t b2 a k2 m d2 c _ _ w1 h1 h2 hbl (Nat.le_trans (bl_64 (by omega)) (by omega))
    rw [hv, h3] at this
    exact this
  clear hx
  have GA : Gr w (w.alloc (.cells #[.bool s, .slice ad n cap] 24)) := (Gr.refl w).alloc _
  have B1 := bx2 (blk1 w (.cells #[.bool s, .slice ad n cap] 24))
  have E : smI X = 0 ∧ smB X = false := by unfold smI smB; simp; omega
  rw [E.1, E.2]
  have S1 : sg (X - (-9223372036854775808)) = -1 := sg_neg (by omega)
  rw [S1] at CL
  clear E S1 hbl hv
  · go_enter Tryd.func24, Tryd.ntmps24
    go_wp2_with (first | (go_at_call 28; (with_reducible refine (RA.out _ GA).mono ?_); rintro r w1 ⟨rfl, g1⟩; have x0 := keepG g1 B1.1; have x1 := keepG g1 B1.2) | (go_at_call 48; (with_reducible refine (IA.out _ (GA.trans g1)).mono ?_); rintro r w2 ⟨b2, k2, d2, rfl, L2, g2⟩))
    have S2 : ((w2.alloc (.cells #[.bool s, .slice b2 k2 d2, .int .i64 0] 65)).drew.cell? ⟨w2.heap.size, 0, none⟩ = some (.bool s) ∧ (w2.alloc (.cells #[.bool s, .slice b2 k2 d2, .int .i64 0] 65)).drew.cell? ⟨w2.heap.size, 1, none⟩ = some (.slice b2 k2 d2) ∧ (w2.alloc (.cells #[.bool s, .slice b2 k2 d2, .int .i64 0] 65)).drew.cell? ⟨w2.heap.size, 2, none⟩ = some (.int .i64 0)) ∧ Gr (w2.alloc (.cells #[.bool s, .slice b2 k2 d2, .int .i64 0] 65)) (w2.alloc (.cells #[.bool s, .slice b2 k2 d2, .int .i64 0] 65)).drew := keepT3 ((Gr.refl _).drew) ⟨cells_ofT (blk1 w2 (.cells #[.bool s, .slice b2 k2 d2, .int .i64 0] 65)), Gr.refl _⟩
    clear x0 x1
    have hS0 := S2
    refine wp_region_held_drew (S := fun w' => (w'.cell? ⟨w2.heap.size, 0, none⟩ = some (.bool s) ∧ w'.cell? ⟨w2.heap.size, 1, none⟩ = some (.slice b2 k2 d2) ∧ w'.cell? ⟨w2.heap.size, 2, none⟩ = some (.int .i64 0)) ∧ Gr (w2.alloc (.cells #[.bool s, .slice b2 k2 d2, .int .i64 0] 65)) w') (by kernel_rfl) hS0 (fun hHeld => ?_)
    refine wpAnyH_take (i := 0) (oi := ({ dst := some 11, op := Op.load 65 (Operand.tmp 4), type := 65, pos := "ref.go:34", after := #[], guard := none } : Oper)) (v := ?_) rfl (by kernel_rfl) (by kernel_rfl) (by kernel_rfl) (fun _ _ _ h => h) (Or.inl ⟨by rfl, ?_⟩) (by with_reducible assumption) ?_
    rotate_left
    · intro w hSw
      (try dsimp only at hSw)
      first | (go_simp; done) | (go_simp; with_reducible rfl)
    (try simp only [Act.put, List.setIfInBounds_toArray, List.set_cons_zero, List.set_cons_succ])
    refine wpAnyH_ready (rs := [1]) (by kernel_rfl) (by simp) ?_
    refine AllReadyH.cons (o := ({ dst := some 12, op := Op.call { callee := Callee.value (Operand.func 50), args := #[Operand.const (Value.int IntKind.i64 (-9223372036854775808))], argTypes := #[2] }, type := 65, pos := "ref.go:34", after := #[], guard := none } : Oper)) rfl (fun K hK => ?_) AllReadyH.nil
    (first | (rw [if_pos (by rfl)]) | skip)
    go_simp
    (with_reducible refine (WL.out _).mono ?_)
    rintro r w3 ⟨t3, a3, m3, c3, rfl, L3, V3, g3⟩
    replace hHeld := keepT3 g3 hHeld
    refine hK.out _ _ hHeld (fun _ => ?_)
    clear hK K
    (try simp only [Act.put, List.setIfInBounds_toArray, List.set_cons_zero, List.set_cons_succ])
    refine wpAnyH_ready (rs := [2]) (by kernel_rfl) (by simp) ?_
    refine AllReadyH.cons (o := ({ dst := some 13, op := Op.call { callee := Callee.value (Operand.func 49), args := #[Operand.tmp 11, Operand.tmp 12], argTypes := #[65, 65] }, type := 3, pos := "ref.go:34", after := #[{ on := 0, ground := Ground.data }, { on := 1, ground := Ground.data }, { on := 1, ground := Ground.chain }], guard := none } : Oper)) rfl (fun K hK => ?_) AllReadyH.nil
    (first | (rw [if_pos (by rfl)]) | skip)
    go_simp
    (with_reducible refine (CL.out _ _ _ _ _ _ _ _ (L2.out.gr (((Gr.refl _).alloc _).trans hHeld.2)) L3.out V3.out).mono ?_)
    rintro r w4 ⟨rfl, g4⟩
    replace hHeld := keepT3 g4 hHeld
    refine hK.out _ _ hHeld (fun _ => ?_)
    clear hK K
    (try simp only [Act.put, List.setIfInBounds_toArray, List.set_cons_zero, List.set_cons_succ])
    refine wpAnyH_take (i := 3) (oi := ({ dst := some 14, op := Op.binOp BinOp.lss 3 (Operand.tmp 13) (Operand.const (Value.int IntKind.i64 0)) 3, type := 4, pos := "ref.go:34", after := #[{ on := 2, ground := Ground.data }], guard := none } : Oper)) (v := ?_) rfl (by kernel_rfl) (by kernel_rfl) (by kernel_rfl) (fun _ _ _ h => h) (Or.inl ⟨by rfl, ?_⟩) (by with_reducible assumption) ?_
    rotate_left
    · intro w hSw
      (try dsimp only at hSw)
      first | (go_simp; done) | (go_simp; with_reducible rfl)
    (try simp only [Act.put, List.setIfInBounds_toArray, List.set_cons_zero, List.set_cons_succ])
    refine wpAnyH_take (i := 4) (oi := ({ dst := some 15, op := Op.move (Operand.tmp 14), type := 4, pos := "ref.go:34", after := #[{ on := 3, ground := Ground.data }, { on := 2, ground := Ground.chain }], guard := none } : Oper)) (v := ?_) rfl (by kernel_rfl) (by kernel_rfl) (by kernel_rfl) (fun _ _ _ h => h) (Or.inl ⟨by rfl, ?_⟩) (by with_reducible assumption) ?_
    rotate_left
    · intro w hSw
      (try dsimp only at hSw)
      first | (go_simp; done) | (go_simp; with_reducible rfl)
    (try simp only [Act.put, List.setIfInBounds_toArray, List.set_cons_zero, List.set_cons_succ])
    refine wpAnyH_take (i := 5) (oi := ({ dst := some 16, op := Op.load 65 (Operand.tmp 4), type := 65, pos := "ref.go:34", after := #[{ on := 4, ground := Ground.guard }], guard := some (4, false) } : Oper)) (v := undef) rfl (by kernel_rfl) (by kernel_rfl) (by kernel_rfl) (fun _ _ _ h => h) (Or.inr ⟨by rfl, rfl⟩) (by with_reducible assumption) ?_
    (try simp only [Act.put, List.setIfInBounds_toArray, List.set_cons_zero, List.set_cons_succ])
    refine wpAnyH_take (i := 6) (oi := ({ dst := some 17, op := Op.call { callee := Callee.value (Operand.func 50), args := #[Operand.const (Value.int IntKind.i64 9223372036854775807)], argTypes := #[2] }, type := 65, pos := "ref.go:34", after := #[{ on := 4, ground := Ground.chain }, { on := 4, ground := Ground.guard }], guard := some (4, false) } : Oper)) (v := undef) rfl (by kernel_rfl) (by kernel_rfl) (by kernel_rfl) (fun _ _ _ h => h) (Or.inr ⟨by rfl, rfl⟩) (by with_reducible assumption) ?_
    (try simp only [Act.put, List.setIfInBounds_toArray, List.set_cons_zero, List.set_cons_succ])
    refine wpAnyH_take (i := 7) (oi := ({ dst := some 18, op := Op.call { callee := Callee.value (Operand.func 49), args := #[Operand.tmp 16, Operand.tmp 17], argTypes := #[65, 65] }, type := 3, pos := "ref.go:34", after := #[{ on := 5, ground := Ground.data }, { on := 6, ground := Ground.data }, { on := 6, ground := Ground.chain }, { on := 4, ground := Ground.guard }], guard := some (4, false) } : Oper)) (v := undef) rfl (by kernel_rfl) (by kernel_rfl) (by kernel_rfl) (fun _ _ _ h => h) (Or.inr ⟨by rfl, rfl⟩) (by with_reducible assumption) ?_
    (try simp only [Act.put, List.setIfInBounds_toArray, List.set_cons_zero, List.set_cons_succ])
    refine wpAnyH_take (i := 8) (oi := ({ dst := some 19, op := Op.binOp BinOp.gtr 3 (Operand.tmp 18) (Operand.const (Value.int IntKind.i64 0)) 3, type := 4, pos := "ref.go:34", after := #[{ on := 7, ground := Ground.data }, { on := 4, ground := Ground.guard }], guard := some (4, false) } : Oper)) (v := undef) rfl (by kernel_rfl) (by kernel_rfl) (by kernel_rfl) (fun _ _ _ h => h) (Or.inr ⟨by rfl, rfl⟩) (by with_reducible assumption) ?_
    (try simp only [Act.put, List.setIfInBounds_toArray, List.set_cons_zero, List.set_cons_succ])
    refine wpAnyH_take (i := 9) (oi := ({ dst := some 20, op := Op.pick (Operand.tmp 15) (Operand.const (Value.bool true)) (Operand.tmp 19), type := 4, pos := "ref.go:34", after := #[{ on := 4, ground := Ground.data }, { on := 8, ground := Ground.data }], guard := none } : Oper)) (v := ?_) rfl (by kernel_rfl) (by kernel_rfl) (by kernel_rfl) (fun _ _ _ h => h) (Or.inl ⟨by rfl, ?_⟩) (by with_reducible assumption) ?_
    rotate_left
    · intro w hSw
      (try dsimp only at hSw)
      first | (go_simp; done) | (go_simp; with_reducible rfl)
    (try simp only [Act.put, List.setIfInBounds_toArray, List.set_cons_zero, List.set_cons_succ])
    refine wpAnyH_done (by kernel_rfl) ?_ _
    go_wp2
    go_ret2
    exact ⟨rfl, (((GA.trans g1).trans g2).alloc _).trans hHeld.2⟩
theorem refSmall (s : Bool) (ad : Option Addr) (n cap : Nat) (X : Int) (w : World) (hx : Wh w s ad n cap X) :
    Calls Tryd.prog 24 #[.agg #[.bool s, .slice ad n cap]] w fun r w' => r = .returned (.tuple #[.int .i64 (smI X), .bool (smB X)]) ∧ Gr w w' := by
  by_cases h : X < -9223372036854775808
  · exact refSmallL s ad n cap X w hx h
  · exact refSmallH s ad n cap X w hx (by omega)
end Go.Proofs.YtniaelpbjgkfmaaDoor
namespace Go.Proofs.YtniaelpbjgkfmaaDoor
open Go.RowKit
set_option linter.unusedVariables false

/-! what is told of one number, right or not: one answer, the program's and the document's -/
def zS (ok : Bool) (V : Int) : Int := if ok then smI V else 0
def bS (ok : Bool) (V : Int) : Bool := if ok then smB V else false
def zB (ok : Bool) (V : Int) : Int := if ok then (bl V.natAbs : Int) else 0
theorem one_cases (s : Bool) (xs : List Nat) : (RightN s xs ∧ rightN s xs = true) ∨ rightN s xs = false := by
  by_cases h1 : RightN s xs
  · exact Or.inl ⟨h1, rightN_t h1⟩
  · exact Or.inr (rightN_f h1)
section
variable (s : Bool) (ad : Option Addr) (n cap : Nat) (xs : List Nat) (w1 : World) (rx : Row w1 ad n cap xs) (hx : ∀ x ∈ xs, x < 18446744073709551616)
include rx hx
theorem smallA : Calls Tryd.prog 11 #[.agg #[.bool s, .slice ad n cap]] w1 fun r w' => r = .returned (.tuple #[.int .i64 (zS (rightN s xs) (VV s xs)), .bool (bS (rightN s xs) (VV s xs))]) ∧ Gr w1 w' := by
  rcases one_cases s xs with ⟨h1, e⟩ | e
  · rw [e]
    exact smallL s ad n cap _ w1 (Wh.of rx hx h1)
  · have := smallN s ad n cap xs w1 rx e
    rw [e]
    exact this
theorem smallB : Calls Tryd.prog 24 #[.agg #[.bool s, .slice ad n cap]] w1 fun r w' => r = .returned (.tuple #[.int .i64 (zS (rightN s xs) (VV s xs)), .bool (bS (rightN s xs) (VV s xs))]) ∧ Gr w1 w' := by
  rcases one_cases s xs with ⟨h1, e⟩ | e
  · rw [e]
    exact refSmall s ad n cap _ w1 (Wh.of rx hx h1)
  · have := refSmallN s ad n cap xs w1 rx e
    rw [e]
    exact this
theorem bitsA : Calls Tryd.prog 18 #[.agg #[.bool s, .slice ad n cap]] w1 fun r w' => r = .returned (.tuple #[.int .i64 (zB (rightN s xs) (VV s xs)), .int .i64 (eC (rightN s xs))]) ∧ Gr w1 w' := by
  rcases one_cases s xs with ⟨h1, e⟩ | e
  · rw [e]
    exact bitsL s ad n cap _ w1 (Wh.of rx hx h1)
  · have := bitsN s ad n cap xs w1 rx e
    rw [e]
    exact this
theorem bitsB : Calls Tryd.prog 26 #[.agg #[.bool s, .slice ad n cap]] w1 fun r w' => r = .returned (.tuple #[.int .i64 (zB (rightN s xs) (VV s xs)), .int .i64 (eC (rightN s xs))]) ∧ Gr w1 w' := by
  rcases one_cases s xs with ⟨h1, e⟩ | e
  · rw [e]
    exact refBits s ad n cap _ w1 (Wh.of rx hx h1)
  · have := refBitsN s ad n cap xs w1 rx e
    rw [e]
    exact this
theorem negA : Calls Tryd.prog 20 #[.agg #[.bool s, .slice ad n cap]] w1 fun r w' => ∃ a b c d, r = .returned (.tuple #[.agg #[.bool a, .slice b c d], .int .i64 (eA (rightN s xs) (-VV s xs))]) ∧ Hid (Wh w' a b c d (zA (rightN s xs) (-VV s xs))) ∧ Gr w1 w' := by
  rcases one_cases s xs with ⟨h1, e⟩ | e
  · rw [e]
    refine (negL s ad n cap _ w1 (Wh.of rx hx h1)).mono ?_
    rintro r w' ⟨a, b, c, d, e, h1, h2, h3⟩
    rcases h2.out with ⟨f1, rfl, f2, _⟩ | ⟨f1, rfl, rfl, rfl, rfl, rfl⟩
    · have f3 := ans_fit (V := -VV s xs) f1
      exact ⟨a, b, c, d, by rw [f3.2]; exact h1, by rw [f3.1]; exact f2, h3⟩
    · have f3 := ans_far (V := -VV s xs) f1
      exact ⟨_, _, _, _, by rw [f3.2]; exact h1, by rw [f3.1]; exact Wh.nil _, h3⟩
  · rw [e]
    refine (negN s ad n cap xs w1 rx e).mono ?_
    rintro r w' ⟨h1, h3⟩
    exact ⟨_, _, _, _, h1, Wh.nil _, h3⟩
theorem negB : Calls Tryd.prog 25 #[.agg #[.bool s, .slice ad n cap]] w1 fun r w' => ∃ a b c d, r = .returned (.tuple #[.agg #[.bool a, .slice b c d], .int .i64 (eA (rightN s xs) (-VV s xs))]) ∧ Hid (Wh w' a b c d (zA (rightN s xs) (-VV s xs))) ∧ Gr w1 w' := by
  rcases one_cases s xs with ⟨h1, e⟩ | e
  · rw [e]
    refine (refNeg s ad n cap _ w1 (Wh.of rx hx h1)).mono ?_
    rintro r w' ⟨a, b, c, d, e, h1, h2, h3⟩
    rcases h2.out with ⟨f1, rfl, f2⟩ | ⟨f1, rfl, rfl, rfl, rfl, rfl⟩
    · have f3 := ans_fit (V := -VV s xs) f1
      exact ⟨a, b, c, d, by rw [f3.2]; exact h1, by rw [f3.1]; exact f2, h3⟩
    · have f3 := ans_far (V := -VV s xs) f1
      exact ⟨_, _, _, _, by rw [f3.2]; exact h1, by rw [f3.1]; exact Wh.nil _, h3⟩
  · rw [e]
    refine (refNegN s ad n cap xs w1 rx e).mono ?_
    rintro r w' ⟨h1, h3⟩
    exact ⟨_, _, _, _, h1, Wh.nil _, h3⟩
theorem shiftA (k : Int) (hT : TabAt 0 Lib.deBruijn64tab w1) : Calls Tryd.prog 17 #[.agg #[.bool s, .slice ad n cap], .int .i64 k] w1 fun r w' => ∃ a b c d, r = .returned (.tuple #[.agg #[.bool a, .slice b c d], .int .i64 (eA (rightN s xs) (shI (VV s xs) k))]) ∧ Hid (Wh w' a b c d (zA (rightN s xs) (shI (VV s xs) k))) ∧ Gr w1 w' := by
  rcases one_cases s xs with ⟨h1, e⟩ | e
  · rw [e]
    refine (shiftL s ad n cap _ k w1 (Wh.of rx hx h1) hT).mono ?_
    rintro r w' ⟨a, b, c, d, e, h1, h2, h3⟩
    rcases h2.out with ⟨f1, rfl, f2, _⟩ | ⟨f1, rfl, rfl, rfl, rfl, rfl⟩
    · have f3 := ans_fit (V := shI (VV s xs) k) f1
      exact ⟨a, b, c, d, by rw [f3.2]; exact h1, by rw [f3.1]; exact f2, h3⟩
    · have f3 := ans_far (V := shI (VV s xs) k) f1
      exact ⟨_, _, _, _, by rw [f3.2]; exact h1, by rw [f3.1]; exact Wh.nil _, h3⟩
  · rw [e]
    refine (shiftN s ad n cap xs w1 rx e k).mono ?_
    rintro r w' ⟨h1, h3⟩
    exact ⟨_, _, _, _, h1, Wh.nil _, h3⟩
theorem shiftB (k : Int) (b1 : -9223372036854775808 ≤ k) (b2 : k ≤ 9223372036854775807) : Calls Tryd.prog 27 #[.agg #[.bool s, .slice ad n cap], .int .i64 k] w1 fun r w' => ∃ a b c d, r = .returned (.tuple #[.agg #[.bool a, .slice b c d], .int .i64 (eA (rightN s xs) (shI (VV s xs) k))]) ∧ Hid (Wh w' a b c d (zA (rightN s xs) (shI (VV s xs) k))) ∧ Gr w1 w' := by
  rcases one_cases s xs with ⟨h1, e⟩ | e
  · rw [e]
    refine (refShift s ad n cap _ k w1 (Wh.of rx hx h1) b1 b2).mono ?_
    rintro r w' ⟨a, b, c, d, e, h1, h2, h3⟩
    rcases h2.out with ⟨f1, rfl, f2⟩ | ⟨f1, rfl, rfl, rfl, rfl, rfl⟩
    · have f3 := ans_fit (V := shI (VV s xs) k) f1
      exact ⟨a, b, c, d, by rw [f3.2]; exact h1, by rw [f3.1]; exact f2, h3⟩
    · have f3 := ans_far (V := shI (VV s xs) k) f1
      exact ⟨_, _, _, _, by rw [f3.2]; exact h1, by rw [f3.1]; exact Wh.nil _, h3⟩
  · rw [e]
    refine (refShiftN s ad n cap xs w1 rx e k).mono ?_
    rintro r w' ⟨h1, h3⟩
    exact ⟨_, _, _, _, h1, Wh.nil _, h3⟩
end
end Go.Proofs.YtniaelpbjgkfmaaDoor
namespace Go.Proofs.YtniaelpbjgkfmaaDoor
open Go.RowKit
set_option linter.unusedVariables false

/-- a box that holds that -/
structure Bc (w : World) (p : Nat) (s : Bool) (ad : Option Addr) (n cap : Nat) : Prop where
  c0 : w.cell? ⟨p, 0, none⟩ = some (.bool s)
  c1 : w.cell? ⟨p, 1, none⟩ = some (.slice ad n cap)
theorem Bc.gr {w w' : World} {p : Nat} {s : Bool} {ad : Option Addr} {n cap : Nat} (h : Bc w p s ad n cap) (g : Gr w w') : Bc w' p s ad n cap := ⟨keepG g h.c0, keepG g h.c1⟩
theorem isE {s t : Bool} {ad1 ad2 : Option Addr} {n1 n2 c1 c2 : Nat} {X e : Int} {w : World} (hx : Wh w s ad1 n1 c1 X) (hy : Wh w t ad2 n2 c2 X) :
    Calls Tryd.prog 16 #[.agg #[.bool s, .slice ad1 n1 c1], .int .i64 e, .agg #[.bool t, .slice ad2 n2 c2], .int .i64 e] w fun r w' => r = .returned (.bool true) ∧ Gr w w' := by
  have := isL s t ad1 ad2 n1 n2 c1 c2 X X e e w hx hy rfl
  rw [eqI_t rfl] at this
  exact this
end Go.Proofs.YtniaelpbjgkfmaaDoor
