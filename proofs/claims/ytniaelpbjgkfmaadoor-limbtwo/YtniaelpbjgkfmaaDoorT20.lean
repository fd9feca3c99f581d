import Derived.Test.YtniaelpbjgkfmaaDoorT18
import Derived.Test.YtniaelpbjgkfmaaDoorT19
import Derived.Test.YtniaelpbjgkfmaaDoorT09
namespace Go.Proofs.YtniaelpbjgkfmaaDoor
open Go.RowKit
set_option linter.unusedVariables false

/-! LentInt, KeptInt, SameInt of any two rows -/
theorem row_take {w : World} {ad : Option Addr} {N C : Nat} {xs ys : List Nat} (h : Row w ad N C (xs ++ ys)) {n : Nat} (hn : xs.length = n) : Row w ad n C xs := by
  have hl := h.len
  rw [List.length_append] at hl
  refine ⟨hn, by have := h.le; omega, h.max, h.nil, fun hp => ?_⟩
  obtain ⟨b, off, e, hb, hc⟩ := h.cells (by omega)
  refine ⟨b, off, e, hb, fun j hj => ?_⟩
  rw [hc j (by omega), getD_leftN (by omega)]
set_option maxHeartbeats 800000 in
theorem sameIntX (s : Bool) (ad1 ad2 : Option Addr) (n c1 c2 : Nat) (xs : List Nat) (w : World) (rx : Row w ad1 n c1 xs) (ry : Row w ad2 n c2 xs) :
    Calls Tryd.prog 14 #[.agg #[.bool s, .slice ad1 n c1], .agg #[.bool s, .slice ad2 n c2]] w fun r w' => r = .returned (.bool true) ∧ Gr w w' := by
  have GA : Gr w ((w.alloc (.cells #[.bool s, .slice ad1 n c1] 24)).alloc (.cells #[.bool s, .slice ad2 n c2] 24)) := ((Gr.refl w).alloc _).alloc _
  have SL : Hid (∀ w1, Gr w w1 → Calls Tryd.prog 38 #[.slice ad1 n c1, .slice ad2 n c2] w1 fun r w' => r = .returned (.bool true) ∧ Gr w1 w') := fun w1 g => sameLimbsT ad1 ad2 n c1 c2 xs w1 (rx.gr g) (ry.gr g)
  clear rx ry
  go_enter Tryd.func14, Tryd.ntmps14
  go_wp2_with (go_at_call 38; (with_reducible refine (SL.out _ GA).mono ?_); rintro r w1 ⟨rfl, g1⟩)
  go_ret
  exact ⟨rfl, GA.trans g1⟩
set_option maxHeartbeats 1600000 in
theorem keptInt (s : Bool) (g n c base : Nat) (ad : Option Addr) (xs : List Nat) (w : World) (hn : n ≤ 17592186044416) (hr : Row w ad n c xs) (hx : ∀ x ∈ xs, x < 18446744073709551616) (ho : w.ownsRow base 26 1 (.slice (some ⟨g, 0, none⟩) (n + 12) (n + 12)) (n + 12) (u64s (xs ++ ml 1 12))) :
    Calls Tryd.prog 30 #[.agg #[.bool s, .slice (some ⟨g, 0, none⟩) n (n + 12)], .agg #[.bool s, .slice ad n c]] w fun r w' => r = .returned (.bool true) ∧ Gr w w' := by
  have GA : Gr w ((w.alloc (.cells #[.bool s, .slice (some ⟨g, 0, none⟩) n (n + 12)] 24)).alloc (.cells #[.bool s, .slice ad n c] 24)) := ((Gr.refl w).alloc _).alloc _
  have SI : Hid (∀ w1, Gr w w1 → Calls Tryd.prog 14 #[.agg #[.bool s, .slice (some ⟨g, 0, none⟩) n (n + 12)], .agg #[.bool s, .slice ad n c]] w1 fun r w' => r = .returned (.bool true) ∧ Gr w1 w') := fun w1 g1 => sameIntX s _ ad n _ c xs w1 ((row_take (row_own ho) hr.len).gr g1) (hr.gr g1)
  have KL : Hid (∀ w1, Gr w w1 → Calls Tryd.prog 57 #[.slice (some ⟨g, 0, none⟩) n (n + 12), .slice ad n c] w1 fun r w' => r = .returned (.bool true) ∧ Gr w1 w') := fun w1 g1 => kept59 base g n c ad xs w1 hn (hr.gr g1) hx (g1.owns ho)
  have B2 := blk2 w (.cells #[.bool s, .slice (some ⟨g, 0, none⟩) n (n + 12)] 24) (.cells #[.bool s, .slice ad n c] 24)
  have S0 : Hid ((_ ∧ _ ∧ _ ∧ _) ∧ Gr w _) := ⟨⟨(bx2 B2.1).1, (bx2 B2.1).2, (bx2 B2.2).1, (bx2 B2.2).2⟩, GA⟩
  clear B2 hr hx ho
  go_enter Tryd.func30, Tryd.ntmps30
  go_wp2_with (first | (go_at_call 14; (with_reducible refine (SI.out _ GA).mono ?_); rintro r w1 ⟨rfl, g1⟩; have S1 := keepC4 g1 S0.out; have x0 := S1.1.1; have x1 := S1.1.2.1; have y0 := S1.1.2.2.1; have y1 := S1.1.2.2.2; have G1 := S1.2) | (go_at_call 57; (with_reducible refine (KL.out _ G1).mono ?_); rintro r w2 ⟨rfl, g2⟩))
  go_ret
  exact ⟨rfl, G1.trans g2⟩
set_option maxHeartbeats 1600000 in
theorem lentInt (s : Bool) (ad : Option Addr) (n c : Nat) (xs : List Nat) (w : World) (hn : n ≤ 17592186044416) (hr : Row w ad n c xs) :
    Calls Tryd.prog 23 #[.agg #[.bool s, .slice ad n c]] w fun e w' => ∃ v, e = .returned v ∧ VL w.heap.size s n xs v w' ∧ Gr w w' := by
  have GA : Gr w ((w.alloc (.cells #[.bool s, .slice ad n c] 24)).alloc (.cells #[.bool false, .slice none 0 0] 24)) := ((Gr.refl w).alloc _).alloc _
  have LL : Hid (Calls Tryd.prog 47 #[.slice ad n c] ((w.alloc (.cells #[.bool s, .slice ad n c] 24)).alloc (.cells #[.bool false, .slice none 0 0] 24)) fun r w' => ∃ g, r = .returned (.slice (some ⟨g, 0, none⟩) n (n + 12)) ∧ Hid (w'.ownsRow ((w.alloc (.cells #[.bool s, .slice ad n c] 24)).alloc (.cells #[.bool false, .slice none 0 0] 24)).heap.size 26 1 (.slice (some ⟨g, 0, none⟩) (n + 12) (n + 12)) (n + 12) (u64s (xs ++ ml 1 12))) ∧ Gr _ w') := lent37 ad n c xs _ hn (hr.gr GA)
  have B2 : Hid _ := blk2 w (.cells #[.bool s, .slice ad n c] 24) (.cells #[.bool false, .slice none 0 0] 24)
  clear hr
  go_enter Tryd.func23, Tryd.ntmps23
  go_wp2_with (go_at_call 47; (with_reducible refine LL.out.mono ?_); rintro r w1 ⟨g, rfl, OW, g1⟩; have hb1 := keepO g1 B2.out.1; have hb2 := keepO g1 B2.out.2; obtain ⟨k0, k1, k2, k3⟩ := Out2.of hb2; have hlt := lt_of_get2 hb2; obtain ⟨x0, x1⟩ := bx2 hb1; have f1 : w1.frozen? ⟨w.heap.size, 1, none⟩ = false := by simp [World.frozen?, hb1])
  have hge : w.heap.size + 1 + 1 ≤ g := by
    rcases OW.out.2 with ⟨e, _⟩ | ⟨b2, cap, cur, e, h3, _⟩
    · cases e
    · injection e with e
      injection e with e
      injection e with e
      rw [e]
      simpa using h3
  have hne : ∀ q, q < g → (Value.slice (some ⟨g, 0, none⟩) (n + 12) (n + 12)).ownBlock ≠ some q := fun q hq e => by simp [Value.ownBlock] at e; omega
  have O2 : Hid _ := owns_far (owns_far (owns_far (owns_low OW.out (show w.heap.size ≤ _ by simp; omega)) (hne w.heap.size (by omega)) 1 (.slice (some ⟨g, 0, none⟩) n (n + 12))) (hne (w.heap.size + 1) (by omega)) 0 (.bool s)) (hne (w.heap.size + 1) (by omega)) 1 (.slice (some ⟨g, 0, none⟩) n (n + 12))
  have far : ∀ i v, w1.cell? ⟨w.heap.size + 1, i, none⟩ = some v → (w1.setCell ⟨w.heap.size, 1, none⟩ (.slice (some ⟨g, 0, none⟩) n (n + 12))).cell? ⟨w.heap.size + 1, i, none⟩ = some v := fun i v h =>
    (World.cell?_of_block (w := w1) (a := ⟨w.heap.size + 1, i, none⟩) (Below.heap_setCell _ _ _ _ (by show w.heap.size + 1 ≠ w.heap.size; omega))).trans h
  obtain ⟨z0, z1⟩ := at2 (v0 := .bool s) (v1 := .slice (some ⟨g, 0, none⟩) n (n + 12)) (far _ _ k0) (far _ _ k1)
  refine bodyPost_ret (v := .agg #[.bool s, .slice (some ⟨g, 0, none⟩) n (n + 12)]) ?_ rfl ⟨_, rfl, ⟨g, rfl, O2.out⟩, (((GA.trans g1).setCell (p := ⟨w.heap.size, 1, none⟩) (by show _ ≤ w.heap.size; omega) _).setCell (p := ⟨w.heap.size + 1, 0, none⟩) (by show _ ≤ w.heap.size + 1; omega) _).setCell (p := ⟨w.heap.size + 1, 1, none⟩) (by show _ ≤ w.heap.size + 1; omega) _⟩
  simp [results, Tryd.results23, go_sem, z0, z1]
end Go.Proofs.YtniaelpbjgkfmaaDoor
namespace Go.Proofs.YtniaelpbjgkfmaaDoor
open Go.RowKit
set_option linter.unusedVariables false

theorem back_of {ops : Array Oper} (h : (ops.toList.zipIdx.all fun p => p.1.after.all fun e => decide (e.on < p.2)) = true) : ∀ (i : Nat) (o : Oper), ops[i]? = some o → ∀ e ∈ o.after, e.on < i := by
  intro i o ho e he
  rw [List.all_eq_true] at h
  have hm : (o, i) ∈ ops.toList.zipIdx := by
    rw [List.mem_zipIdx_iff_getElem?]
    simpa using ho
  have h2 := h (o, i) hm
  rw [Array.all_eq_true_iff_forall_mem] at h2
  exact of_decide_eq_true (h2 e he)
end Go.Proofs.YtniaelpbjgkfmaaDoor
namespace Go.Proofs.YtniaelpbjgkfmaaDoor
open Go.RowKit
set_option linter.unusedVariables false

/-! what is told of two numbers, right or not: one answer, the program's and the document's -/
def zA (ok : Bool) (V : Int) : Int := if ok then (if V.natAbs < TopN then V else 0) else 0
def eA (ok : Bool) (V : Int) : Int := if ok then (if V.natAbs < TopN then 0 else 3) else 2
def zC (ok : Bool) (V : Int) : Int := if ok then sg V else 0
def eC (ok : Bool) : Int := if ok then 0 else 2
theorem ans_fit {V : Int} (h : V.natAbs < TopN) : zA true V = V ∧ eA true V = 0 := by unfold zA eA; simp [h]
theorem ans_far {V : Int} (h : TopN ≤ V.natAbs) : zA true V = 0 ∧ eA true V = 3 := by unfold zA eA; simp [Nat.not_lt.2 h]
def OK (s t : Bool) (xs ys : List Nat) : Bool := rightN s xs && rightN t ys
def VV (s : Bool) (xs : List Nat) : Int := iv s (nv 18446744073709551616 xs)
theorem ok_cases (s t : Bool) (xs ys : List Nat) : (RightN s xs ∧ RightN t ys ∧ OK s t xs ys = true) ∨ OK s t xs ys = false := by
  by_cases h1 : RightN s xs
  · by_cases h2 : RightN t ys
    · exact Or.inl ⟨h1, h2, by unfold OK; rw [rightN_t h1, rightN_t h2]; rfl⟩
    · exact Or.inr (by unfold OK; rw [rightN_f h2]; simp)
  · exact Or.inr (by unfold OK; rw [rightN_f h1]; simp)
section
variable (s t : Bool) (ad1 ad2 : Option Addr) (n1 n2 c1 c2 : Nat) (xs ys : List Nat) (w1 : World) (rx : Row w1 ad1 n1 c1 xs) (ry : Row w1 ad2 n2 c2 ys) (hx : ∀ x ∈ xs, x < 18446744073709551616) (hy : ∀ x ∈ ys, x < 18446744073709551616)
include rx ry hx hy
theorem cmpA : Calls Tryd.prog 19 #[.agg #[.bool s, .slice ad1 n1 c1], .agg #[.bool t, .slice ad2 n2 c2]] w1 fun r w' => r = .returned (.tuple #[.int .i64 (zC (OK s t xs ys) (VV s xs - VV t ys)), .int .i64 (eC (OK s t xs ys))]) ∧ Gr w1 w' := by
  rcases ok_cases s t xs ys with ⟨h1, h2, e⟩ | e
  · rw [e]
    exact cmpL s t ad1 ad2 n1 n2 c1 c2 _ _ w1 (Wh.of rx hx h1) (Wh.of ry hy h2)
  · have := cmpN s t ad1 ad2 n1 n2 c1 c2 xs ys w1 rx ry e
    rw [e]
    exact this
theorem cmpB : Calls Tryd.prog 31 #[.agg #[.bool s, .slice ad1 n1 c1], .agg #[.bool t, .slice ad2 n2 c2]] w1 fun r w' => r = .returned (.tuple #[.int .i64 (zC (OK s t xs ys) (VV s xs - VV t ys)), .int .i64 (eC (OK s t xs ys))]) ∧ Gr w1 w' := by
  rcases ok_cases s t xs ys with ⟨h1, h2, e⟩ | e
  · rw [e]
    exact refCmp s t ad1 ad2 n1 n2 c1 c2 _ _ w1 (Wh.of rx hx h1) (Wh.of ry hy h2)
  · have := refCmpN s t ad1 ad2 n1 n2 c1 c2 xs ys w1 rx ry e
    rw [e]
    exact this
theorem addA : Calls Tryd.prog 12 #[.agg #[.bool s, .slice ad1 n1 c1], .agg #[.bool t, .slice ad2 n2 c2]] w1 fun r w' => ∃ a b c d, r = .returned (.tuple #[.agg #[.bool a, .slice b c d], .int .i64 (eA (OK s t xs ys) (VV s xs + VV t ys))]) ∧ Hid (Wh w' a b c d (zA (OK s t xs ys) (VV s xs + VV t ys))) ∧ Gr w1 w' := by
  rcases ok_cases s t xs ys with ⟨h1, h2, e⟩ | e
  · rw [e]
    refine (addL s t ad1 ad2 n1 n2 c1 c2 _ _ w1 (Wh.of rx hx h1) (Wh.of ry hy h2)).mono ?_
    rintro r w' ⟨a, b, c, d, e, h1, h2, h3⟩
    rcases h2.out with ⟨f1, rfl, f2, _⟩ | ⟨f1, rfl, rfl, rfl, rfl, rfl⟩
    · have f3 := ans_fit (V := VV s xs + VV t ys) f1
      exact ⟨a, b, c, d, by rw [f3.2]; exact h1, by rw [f3.1]; exact f2, h3⟩
    · have f3 := ans_far (V := VV s xs + VV t ys) f1
      exact ⟨_, _, _, _, by rw [f3.2]; exact h1, by rw [f3.1]; exact Wh.nil _, h3⟩
  · rw [e]
    refine (addN s t ad1 ad2 n1 n2 c1 c2 xs ys w1 rx ry e).mono ?_
    rintro r w' ⟨h1, h3⟩
    exact ⟨_, _, _, _, h1, Wh.nil _, h3⟩
theorem addB : Calls Tryd.prog 32 #[.agg #[.bool s, .slice ad1 n1 c1], .agg #[.bool t, .slice ad2 n2 c2]] w1 fun r w' => ∃ a b c d, r = .returned (.tuple #[.agg #[.bool a, .slice b c d], .int .i64 (eA (OK s t xs ys) (VV s xs + VV t ys))]) ∧ Hid (Wh w' a b c d (zA (OK s t xs ys) (VV s xs + VV t ys))) ∧ Gr w1 w' := by
  rcases ok_cases s t xs ys with ⟨h1, h2, e⟩ | e
  · rw [e]
    refine (refAdd s t ad1 ad2 n1 n2 c1 c2 _ _ w1 (Wh.of rx hx h1) (Wh.of ry hy h2)).mono ?_
    rintro r w' ⟨a, b, c, d, e, h1, h2, h3⟩
    rcases h2.out with ⟨f1, rfl, f2⟩ | ⟨f1, rfl, rfl, rfl, rfl, rfl⟩
    · have f3 := ans_fit (V := VV s xs + VV t ys) f1
      exact ⟨a, b, c, d, by rw [f3.2]; exact h1, by rw [f3.1]; exact f2, h3⟩
    · have f3 := ans_far (V := VV s xs + VV t ys) f1
      exact ⟨_, _, _, _, by rw [f3.2]; exact h1, by rw [f3.1]; exact Wh.nil _, h3⟩
  · rw [e]
    refine (refAddN s t ad1 ad2 n1 n2 c1 c2 xs ys w1 rx ry e).mono ?_
    rintro r w' ⟨h1, h3⟩
    exact ⟨_, _, _, _, h1, Wh.nil _, h3⟩
theorem subA : Calls Tryd.prog 13 #[.agg #[.bool s, .slice ad1 n1 c1], .agg #[.bool t, .slice ad2 n2 c2]] w1 fun r w' => ∃ a b c d, r = .returned (.tuple #[.agg #[.bool a, .slice b c d], .int .i64 (eA (OK s t xs ys) (VV s xs - VV t ys))]) ∧ Hid (Wh w' a b c d (zA (OK s t xs ys) (VV s xs - VV t ys))) ∧ Gr w1 w' := by
  rcases ok_cases s t xs ys with ⟨h1, h2, e⟩ | e
  · rw [e]
    refine (subL s t ad1 ad2 n1 n2 c1 c2 _ _ w1 (Wh.of rx hx h1) (Wh.of ry hy h2)).mono ?_
    rintro r w' ⟨a, b, c, d, e, h1, h2, h3⟩
    rcases h2.out with ⟨f1, rfl, f2, _⟩ | ⟨f1, rfl, rfl, rfl, rfl, rfl⟩
    · have f3 := ans_fit (V := VV s xs - VV t ys) f1
      exact ⟨a, b, c, d, by rw [f3.2]; exact h1, by rw [f3.1]; exact f2, h3⟩
    · have f3 := ans_far (V := VV s xs - VV t ys) f1
      exact ⟨_, _, _, _, by rw [f3.2]; exact h1, by rw [f3.1]; exact Wh.nil _, h3⟩
  · rw [e]
    refine (subN s t ad1 ad2 n1 n2 c1 c2 xs ys w1 rx ry e).mono ?_
    rintro r w' ⟨h1, h3⟩
    exact ⟨_, _, _, _, h1, Wh.nil _, h3⟩
theorem subB : Calls Tryd.prog 33 #[.agg #[.bool s, .slice ad1 n1 c1], .agg #[.bool t, .slice ad2 n2 c2]] w1 fun r w' => ∃ a b c d, r = .returned (.tuple #[.agg #[.bool a, .slice b c d], .int .i64 (eA (OK s t xs ys) (VV s xs - VV t ys))]) ∧ Hid (Wh w' a b c d (zA (OK s t xs ys) (VV s xs - VV t ys))) ∧ Gr w1 w' := by
  rcases ok_cases s t xs ys with ⟨h1, h2, e⟩ | e
  · rw [e]
    refine (refSub s t ad1 ad2 n1 n2 c1 c2 _ _ w1 (Wh.of rx hx h1) (Wh.of ry hy h2)).mono ?_
    rintro r w' ⟨a, b, c, d, e, h1, h2, h3⟩
    rcases h2.out with ⟨f1, rfl, f2⟩ | ⟨f1, rfl, rfl, rfl, rfl, rfl⟩
    · have f3 := ans_fit (V := VV s xs - VV t ys) f1
      exact ⟨a, b, c, d, by rw [f3.2]; exact h1, by rw [f3.1]; exact f2, h3⟩
    · have f3 := ans_far (V := VV s xs - VV t ys) f1
      exact ⟨_, _, _, _, by rw [f3.2]; exact h1, by rw [f3.1]; exact Wh.nil _, h3⟩
  · rw [e]
    refine (refSubN s t ad1 ad2 n1 n2 c1 c2 xs ys w1 rx ry e).mono ?_
    rintro r w' ⟨h1, h3⟩
    exact ⟨_, _, _, _, h1, Wh.nil _, h3⟩
end
end Go.Proofs.YtniaelpbjgkfmaaDoor
namespace Go.Proofs.YtniaelpbjgkfmaaDoor
open Go.RowKit
set_option linter.unusedVariables false

/-- a box that holds that -/
structure Bc (w : World) (p : Nat) (s : Bool) (ad : Option Addr) (n cap : Nat) : Prop where
  c0 : w.cell? ⟨p, 0, none⟩ = some (.bool s)
  c1 : w.cell? ⟨p, 1, none⟩ = some (.slice ad n cap)
theorem Bc.gr {w w' : World} {p : Nat} {s : Bool} {ad : Option Addr} {n cap : Nat} (h : Bc w p s ad n cap) (g : Gr w w') : Bc w' p s ad n cap := ⟨keepG g h.c0, keepG g h.c1⟩
theorem isE {s t : Bool} {ad1 ad2 : Option Addr} {n1 n2 c1 c2 : Nat} {X e : Int} {w : World} (hx : Wh w s ad1 n1 c1 X) (hy : Wh w t ad2 n2 c2 X) :
    Calls Tryd.prog 16 #[.agg #[.bool s, .slice ad1 n1 c1], .int .i64 e, .agg #[.bool t, .slice ad2 n2 c2], .int .i64 e] w fun r w' => r = .returned (.bool true) ∧ Gr w w' := by
  have := isL s t ad1 ad2 n1 n2 c1 c2 X X e e w hx hy rfl
  rw [eqI_t rfl] at this
  exact this
set_option maxRecDepth 10000 in
set_option maxHeartbeats 6400000 in
/-- THE STAGE'S THEOREM -/
theorem twoW (s1 s2 : Bool) (ad1 ad2 : Option Addr) (n1 n2 k1 k2 : Nat) (xs1 xs2 : List Nat) (w : World) (r1 : Row w ad1 n1 k1 xs1) (r2 : Row w ad2 n2 k2 xs2) (h1 : ∀ x ∈ xs1, x < 18446744073709551616) (h2 : ∀ x ∈ xs2, x < 18446744073709551616) (z1 : n1 ≤ 17592186044416) (z2 : n2 ≤ 17592186044416) (hT : TabAt 0 Lib.deBruijn64tab w) :
    Calls Tryd.prog 5 #[.agg #[.bool s1, .slice ad1 n1 k1], .agg #[.bool s2, .slice ad2 n2 k2]] w fun r w' => r = .returned (.bool true) ∧ Gr w w' := by
  have GP : Gr w ((w.alloc (.cells #[.bool s1, .slice ad1 n1 k1] 24)).alloc (.cells #[.bool s2, .slice ad2 n2 k2] 24)) := ((Gr.refl w).alloc _).alloc _
  have BX : Hid _ := blk2 w (.cells #[.bool s1, .slice ad1 n1 k1] 24) (.cells #[.bool s2, .slice ad2 n2 k2] 24)
  have HC0 : Hid (∀ w1, Gr ((w.alloc (.cells #[.bool s1, .slice ad1 n1 k1] 24)).alloc (.cells #[.bool s2, .slice ad2 n2 k2] 24)) w1 → Calls Tryd.prog 23 #[.agg #[.bool s1, .slice ad1 n1 k1]] w1 fun e w' => ∃ v, e = .returned v ∧ VL ((w.alloc (.cells #[.bool s1, .slice ad1 n1 k1] 24)).alloc (.cells #[.bool s2, .slice ad2 n2 k2] 24)).heap.size s1 n1 xs1 v w' ∧ Gr w1 w') := fun w1 g => by
    refine (lentInt s1 ad1 n1 k1 xs1 w1 z1 ((r1.gr GP).gr g)).mono ?_
    rintro e w' ⟨v, h1, ⟨b, h2, h3⟩, h4⟩
    exact ⟨v, h1, ⟨b, h2, owns_low h3 g.size⟩, h4⟩
  have HC1 : Hid (∀ w1, Gr ((w.alloc (.cells #[.bool s1, .slice ad1 n1 k1] 24)).alloc (.cells #[.bool s2, .slice ad2 n2 k2] 24)) w1 → Calls Tryd.prog 23 #[.agg #[.bool s2, .slice ad2 n2 k2]] w1 fun e w' => ∃ v, e = .returned v ∧ VL ((w.alloc (.cells #[.bool s1, .slice ad1 n1 k1] 24)).alloc (.cells #[.bool s2, .slice ad2 n2 k2] 24)).heap.size s2 n2 xs2 v w' ∧ Gr w1 w') := fun w1 g => by
    refine (lentInt s2 ad2 n2 k2 xs2 w1 z2 ((r2.gr GP).gr g)).mono ?_
    rintro e w' ⟨v, h1, ⟨b, h2, h3⟩, h4⟩
    exact ⟨v, h1, ⟨b, h2, owns_low h3 g.size⟩, h4⟩
  have HT : Hid (TabAt 0 Lib.deBruijn64tab w) := hT
  have R1 := hide r1
  have R2 := hide r2
  have Q1 := hide h1
  have Q2 := hide h2
  clear r1 r2 h1 h2 hT
  go_enter Tryd.func5, Tryd.ntmps5
  go_wp2
  refine tuple_lent (k := 2) (P0 := 2) (A0 := 5) (D := 19) (sg := (fun i => if i = 0 then s1 else s2)) (ad := (fun i => if i = 0 then ad1 else ad2)) (n := (fun i => if i = 0 then n1 else n2)) (cap := (fun i => if i = 0 then k1 else k2)) (xs := (fun i => if i = 0 then xs1 else xs2)) (p := fun i => w.heap.size + i) (pv := fun i => .agg #[.bool ((fun i => if i = 0 then s1 else s2) i), .slice ((fun i => if i = 0 then ad1 else ad2) i) ((fun i => if i = 0 then n1 else n2) i) ((fun i => if i = 0 then k1 else k2) i)]) ?ht (by decide) (by decide) (Nat.le_of_ble_eq_true rfl) (fun _ => rfl) ?hp ?hb ?hc _ ?hq
  case ht =>
    refine ⟨rfl, back_of (by kernel_rfl), ?_, ?_, ?_, ?_⟩
    · intro i hi
      rcases (show i = 0 ∨ i = 1 by omega) with rfl | rfl <;> exact ⟨_, _, _, rfl⟩
    · intro i hi
      rcases (show i = 0 ∨ i = 1 by omega) with rfl | rfl
      · exact ⟨_, _, _, _, rfl, { on := 0, ground := Ground.data }, by simp, rfl, rfl⟩
      · exact ⟨_, _, _, _, rfl, { on := 2, ground := Ground.data }, by simp, rfl, rfl⟩
    · intro i hi
      rcases (show i = 0 ∨ i = 1 by omega) with rfl | rfl <;> exact ⟨_, _, _, rfl⟩
    · intro i hi
      rcases (show i = 0 ∨ i = 1 by omega) with rfl | rfl
      · exact ⟨_, _, _, rfl, ⟨{ on := 4, ground := Ground.data }, by simp, rfl, rfl⟩, { on := 1, ground := Ground.data }, by simp, rfl, rfl⟩
      · exact ⟨_, _, _, rfl, ⟨{ on := 5, ground := Ground.data }, by simp, rfl, rfl⟩, { on := 3, ground := Ground.data }, by simp, rfl, rfl⟩
  case hp =>
    intro i hi
    rcases (show i = 0 ∨ i = 1 by omega) with rfl | rfl <;> rfl
  case hb =>
    intro i hi
    rcases (show i = 0 ∨ i = 1 by omega) with rfl | rfl
    · exact BX.out.1
    · exact BX.out.2
  case hc =>
    intro i hi w1 g
    rcases (show i = 0 ∨ i = 1 by omega) with rfl | rfl
    · exact HC0.out w1 g
    · exact HC1.out w1 g
  case hq =>
    intro f wt FIN
    obtain ⟨GW, hall⟩ := FIN
    obtain ⟨ela0, pla, bla, ela1, ela2, hpla, hbla, hola⟩ := hall 0 (by omega)
    obtain ⟨elb0, plb, blb, elb1, elb2, hplb, hblb, holb⟩ := hall 1 (by omega)
    clear hall
    replace ela0 : f 19 = .agg #[.bool s1, .slice ad1 n1 k1] := ela0
    replace ela1 : f 5 = .pointer (some ⟨pla, 0, none⟩) := ela1
    replace ela2 : f 20 = .agg #[.bool s1, .slice (some ⟨bla, 0, none⟩) n1 (n1 + 12)] := ela2
    replace hbla : wt.heap[pla]? = some (.cells #[.bool s1, .slice (some ⟨bla, 0, none⟩) n1 (n1 + 12)] 24) := hbla
    replace hola : wt.ownsRow _ 26 1 (.slice (some ⟨bla, 0, none⟩) (n1 + 12) (n1 + 12)) (n1 + 12) (u64s (xs1 ++ ml 1 12)) := hola
    replace elb0 : f 21 = .agg #[.bool s2, .slice ad2 n2 k2] := elb0
    replace elb1 : f 6 = .pointer (some ⟨plb, 0, none⟩) := elb1
    replace elb2 : f 22 = .agg #[.bool s2, .slice (some ⟨blb, 0, none⟩) n2 (n2 + 12)] := elb2
    replace hblb : wt.heap[plb]? = some (.cells #[.bool s2, .slice (some ⟨blb, 0, none⟩) n2 (n2 + 12)] 24) := hblb
    replace holb : wt.ownsRow _ 26 1 (.slice (some ⟨blb, 0, none⟩) (n2 + 12) (n2 + 12)) (n2 + 12) (u64s (xs2 ++ ml 1 12)) := holb
    rw [show tslots 2 5 19 = [19, 20, 21, 22, 5, 6] from rfl]
    simp only [List.foldl_cons, List.foldl_nil, ela0, ela1, ela2, elb0, elb1, elb2, List.setIfInBounds_toArray, List.set_cons_succ, List.set_cons_zero]
    have Hla : Bc wt pla s1 (some ⟨bla, 0, none⟩) n1 (n1 + 12) := ⟨(bx2 hbla).1, (bx2 hbla).2⟩
    have Hlb : Bc wt plb s2 (some ⟨blb, 0, none⟩) n2 (n2 + 12) := ⟨(bx2 hblb).1, (bx2 hblb).2⟩
    clear ela0 ela1 ela2 hbla elb0 elb1 elb2 hblb
    have GZ := GP.trans GW
    have RA := row_take (row_own hola) R1.out.len
    have RB := row_take (row_own holb) R2.out.len
    have Ha : Bc wt w.heap.size s1 ad1 n1 k1 := ⟨(bx2 (keepO GW BX.out.1)).1, (bx2 (keepO GW BX.out.1)).2⟩
    have Hb : Bc wt (w.heap.size + 1) s2 ad2 n2 k2 := ⟨(bx2 (keepO GW BX.out.2)).1, (bx2 (keepO GW BX.out.2)).2⟩
    have CA : Hid (∀ w1, Gr wt w1 → Calls Tryd.prog 19 #[.agg #[.bool s1, .slice (some ⟨bla, 0, none⟩) n1 (n1 + 12)], .agg #[.bool s2, .slice (some ⟨blb, 0, none⟩) n2 (n2 + 12)]] w1 fun r w' => r = .returned (.tuple #[.int .i64 (zC (OK s1 s2 xs1 xs2) (VV s1 xs1 - VV s2 xs2)), .int .i64 (eC (OK s1 s2 xs1 xs2))]) ∧ Gr w1 w') := fun w1 g => cmpA s1 s2 _ _ n1 n2 _ _ xs1 xs2 w1 (RA.gr g) (RB.gr g) Q1.out Q2.out
    have CB : Hid (∀ w1, Gr wt w1 → Calls Tryd.prog 31 #[.agg #[.bool s1, .slice ad1 n1 k1], .agg #[.bool s2, .slice ad2 n2 k2]] w1 fun r w' => r = .returned (.tuple #[.int .i64 (zC (OK s1 s2 xs1 xs2) (VV s1 xs1 - VV s2 xs2)), .int .i64 (eC (OK s1 s2 xs1 xs2))]) ∧ Gr w1 w') := fun w1 g => cmpB s1 s2 _ _ n1 n2 _ _ xs1 xs2 w1 (R1.out.gr (GZ.trans g)) (R2.out.gr (GZ.trans g)) Q1.out Q2.out
    have AA : Hid (∀ w1, Gr wt w1 → Calls Tryd.prog 12 #[.agg #[.bool s1, .slice (some ⟨bla, 0, none⟩) n1 (n1 + 12)], .agg #[.bool s2, .slice (some ⟨blb, 0, none⟩) n2 (n2 + 12)]] w1 fun r w' => ∃ a b c d, r = .returned (.tuple #[.agg #[.bool a, .slice b c d], .int .i64 (eA (OK s1 s2 xs1 xs2) (VV s1 xs1 + VV s2 xs2))]) ∧ Hid (Wh w' a b c d (zA (OK s1 s2 xs1 xs2) (VV s1 xs1 + VV s2 xs2))) ∧ Gr w1 w') := fun w1 g => addA s1 s2 _ _ n1 n2 _ _ xs1 xs2 w1 (RA.gr g) (RB.gr g) Q1.out Q2.out
    have AB : Hid (∀ w1, Gr wt w1 → Calls Tryd.prog 32 #[.agg #[.bool s1, .slice ad1 n1 k1], .agg #[.bool s2, .slice ad2 n2 k2]] w1 fun r w' => ∃ a b c d, r = .returned (.tuple #[.agg #[.bool a, .slice b c d], .int .i64 (eA (OK s1 s2 xs1 xs2) (VV s1 xs1 + VV s2 xs2))]) ∧ Hid (Wh w' a b c d (zA (OK s1 s2 xs1 xs2) (VV s1 xs1 + VV s2 xs2))) ∧ Gr w1 w') := fun w1 g => addB s1 s2 _ _ n1 n2 _ _ xs1 xs2 w1 (R1.out.gr (GZ.trans g)) (R2.out.gr (GZ.trans g)) Q1.out Q2.out
    have SA : Hid (∀ w1, Gr wt w1 → Calls Tryd.prog 13 #[.agg #[.bool s1, .slice (some ⟨bla, 0, none⟩) n1 (n1 + 12)], .agg #[.bool s2, .slice (some ⟨blb, 0, none⟩) n2 (n2 + 12)]] w1 fun r w' => ∃ a b c d, r = .returned (.tuple #[.agg #[.bool a, .slice b c d], .int .i64 (eA (OK s1 s2 xs1 xs2) (VV s1 xs1 - VV s2 xs2))]) ∧ Hid (Wh w' a b c d (zA (OK s1 s2 xs1 xs2) (VV s1 xs1 - VV s2 xs2))) ∧ Gr w1 w') := fun w1 g => subA s1 s2 _ _ n1 n2 _ _ xs1 xs2 w1 (RA.gr g) (RB.gr g) Q1.out Q2.out
    have SB : Hid (∀ w1, Gr wt w1 → Calls Tryd.prog 33 #[.agg #[.bool s1, .slice ad1 n1 k1], .agg #[.bool s2, .slice ad2 n2 k2]] w1 fun r w' => ∃ a b c d, r = .returned (.tuple #[.agg #[.bool a, .slice b c d], .int .i64 (eA (OK s1 s2 xs1 xs2) (VV s1 xs1 - VV s2 xs2))]) ∧ Hid (Wh w' a b c d (zA (OK s1 s2 xs1 xs2) (VV s1 xs1 - VV s2 xs2))) ∧ Gr w1 w') := fun w1 g => subB s1 s2 _ _ n1 n2 _ _ xs1 xs2 w1 (R1.out.gr (GZ.trans g)) (R2.out.gr (GZ.trans g)) Q1.out Q2.out
    have KA : Hid (∀ w1, Gr wt w1 → Calls Tryd.prog 30 #[.agg #[.bool s1, .slice (some ⟨bla, 0, none⟩) n1 (n1 + 12)], .agg #[.bool s1, .slice ad1 n1 k1]] w1 fun r w' => r = .returned (.bool true) ∧ Gr w1 w') := fun w1 g => keptInt s1 _ n1 k1 _ ad1 xs1 w1 z1 (R1.out.gr (GZ.trans g)) Q1.out (g.owns hola)
    have KB : Hid (∀ w1, Gr wt w1 → Calls Tryd.prog 30 #[.agg #[.bool s2, .slice (some ⟨blb, 0, none⟩) n2 (n2 + 12)], .agg #[.bool s2, .slice ad2 n2 k2]] w1 fun r w' => r = .returned (.bool true) ∧ Gr w1 w') := fun w1 g => keptInt s2 _ n2 k2 _ ad2 xs2 w1 z2 (R2.out.gr (GZ.trans g)) Q2.out (g.owns holb)
    clear R1 R2 Q1 Q2 RA RB BX HC0 HC1 GP GW hola holb
    generalize zC (OK s1 s2 xs1 xs2) (VV s1 xs1 - VV s2 xs2) = cz at *
    generalize eC (OK s1 s2 xs1 xs2) = ce at *
    generalize eA (OK s1 s2 xs1 xs2) (VV s1 xs1 + VV s2 xs2) = ea at *
    generalize zA (OK s1 s2 xs1 xs2) (VV s1 xs1 + VV s2 xs2) = za at *
    generalize eA (OK s1 s2 xs1 xs2) (VV s1 xs1 - VV s2 xs2) = es at *
    generalize zA (OK s1 s2 xs1 xs2) (VV s1 xs1 - VV s2 xs2) = zs at *
    have GW : Gr wt wt := Gr.refl wt
    have tok0 : True := trivial
    have qla0 := Hla.c0
    have qla1 := Hla.c1
    have qlb0 := Hlb.c0
    have qlb1 := Hlb.c1
    go_wp2_with (first | (go_at_call 19; have _t := tok0; (with_reducible refine (CA.out _ GW).mono ?_); rintro r w0x ⟨rfl, g0x⟩; clear tok0; have tok1 : True := trivial; clear qla0 qla1 qlb0 qlb1; replace Ha := Ha.gr g0x; replace Hb := Hb.gr g0x; replace Hla := Hla.gr g0x; replace Hlb := Hlb.gr g0x; replace GW := GW.trans g0x; clear g0x; have qa0 := Ha.c0; have qa1 := Ha.c1; have qb0 := Hb.c0; have qb1 := Hb.c1) | (go_at_call 31; have _t := tok1; (with_reducible refine (CB.out _ GW).mono ?_); rintro r w1x ⟨rfl, g1x⟩; clear tok1; have tok2 : True := trivial; clear qa0 qa1 qb0 qb1; replace Ha := Ha.gr g1x; replace Hb := Hb.gr g1x; replace Hla := Hla.gr g1x; replace Hlb := Hlb.gr g1x; replace GW := GW.trans g1x; clear g1x; have qla0 := Hla.c0; have qla1 := Hla.c1; have qlb0 := Hlb.c0; have qlb1 := Hlb.c1) | (go_at_call 12; have _t := tok2; (with_reducible refine (AA.out _ GW).mono ?_); rintro r w2x ⟨sx, ax, nx, cx, rfl, Dx, g2x⟩; clear tok2; have tok3 : True := trivial; clear qla0 qla1 qlb0 qlb1; have G := g2x.alloc (.cells #[.bool sx, .slice ax nx cx] 24); have Hx := Bw.new Dx.out; clear Dx; replace Ha := Ha.gr G; replace Hb := Hb.gr G; replace Hla := Hla.gr G; replace Hlb := Hlb.gr G; replace GW := GW.trans G; clear G g2x; have qa0 := Ha.c0; have qa1 := Ha.c1; have qb0 := Hb.c0; have qb1 := Hb.c1) | (go_at_call 32; have _t := tok3; (with_reducible refine (AB.out _ GW).mono ?_); rintro r w3x ⟨sy, ay, ny, cy, rfl, Dy, g3x⟩; clear tok3; have tok4 : True := trivial; clear qa0 qa1 qb0 qb1; have G := g3x.alloc (.cells #[.bool sy, .slice ay ny cy] 24); have Hy := Bw.new Dy.out; clear Dy; replace Ha := Ha.gr G; replace Hb := Hb.gr G; replace Hla := Hla.gr G; replace Hlb := Hlb.gr G; replace Hx := Hx.gr G; replace GW := GW.trans G; clear G g3x; have qla0 := Hla.c0; have qla1 := Hla.c1; have qlb0 := Hlb.c0; have qlb1 := Hlb.c1) | (go_at_call 13; have _t := tok4; (with_reducible refine (SA.out _ GW).mono ?_); rintro r w4x ⟨su, au, nu, cu, rfl, Du, g4x⟩; clear tok4; have tok5 : True := trivial; clear qla0 qla1 qlb0 qlb1; have G := g4x.alloc (.cells #[.bool su, .slice au nu cu] 24); have Hu := Bw.new Du.out; clear Du; replace Ha := Ha.gr G; replace Hb := Hb.gr G; replace Hla := Hla.gr G; replace Hlb := Hlb.gr G; replace Hx := Hx.gr G; replace Hy := Hy.gr G; replace GW := GW.trans G; clear G g4x; have qa0 := Ha.c0; have qa1 := Ha.c1; have qb0 := Hb.c0; have qb1 := Hb.c1) | (go_at_call 33; have _t := tok5; (with_reducible refine (SB.out _ GW).mono ?_); rintro r w5x ⟨sv, av, nv, cv, rfl, Dv, g5x⟩; clear tok5; have tok6 : True := trivial; clear qa0 qa1 qb0 qb1; have G := g5x.alloc (.cells #[.bool sv, .slice av nv cv] 24); have Hv := Bw.new Dv.out; clear Dv; replace Ha := Ha.gr G; replace Hb := Hb.gr G; replace Hla := Hla.gr G; replace Hlb := Hlb.gr G; replace Hx := Hx.gr G; replace Hy := Hy.gr G; replace Hu := Hu.gr G; replace GW := GW.trans G; clear G g5x; have qx0 := Hx.c0; have qx1 := Hx.c1; have qy0 := Hy.c0; have qy1 := Hy.c1) | (go_at_call 16; have _t := tok6; (with_reducible refine (isE Hx.v Hy.v).mono ?_); rintro r w6x ⟨rfl, g6x⟩; clear tok6; have tok7 : True := trivial; clear qx0 qx1 qy0 qy1; replace Ha := Ha.gr g6x; replace Hb := Hb.gr g6x; replace Hla := Hla.gr g6x; replace Hlb := Hlb.gr g6x; replace Hx := Hx.gr g6x; replace Hy := Hy.gr g6x; replace Hu := Hu.gr g6x; replace Hv := Hv.gr g6x; replace GW := GW.trans g6x; clear g6x; have qu0 := Hu.c0; have qu1 := Hu.c1; have qv0 := Hv.c0; have qv1 := Hv.c1) | (go_at_call 16; have _t := tok7; (with_reducible refine (isE Hu.v Hv.v).mono ?_); rintro r w7x ⟨rfl, g7x⟩; clear tok7; have tok8 : True := trivial; clear qu0 qu1 qv0 qv1; replace Ha := Ha.gr g7x; replace Hb := Hb.gr g7x; replace Hla := Hla.gr g7x; replace Hlb := Hlb.gr g7x; replace Hx := Hx.gr g7x; replace Hy := Hy.gr g7x; replace Hu := Hu.gr g7x; replace Hv := Hv.gr g7x; replace GW := GW.trans g7x; clear g7x; have qla0 := Hla.c0; have qla1 := Hla.c1; have qa0 := Ha.c0; have qa1 := Ha.c1) | (go_at_call 30; have _t := tok8; (with_reducible refine (KA.out _ GW).mono ?_); rintro r w8x ⟨rfl, g8x⟩; clear tok8; have tok9 : True := trivial; clear qla0 qla1 qa0 qa1; replace Ha := Ha.gr g8x; replace Hb := Hb.gr g8x; replace Hla := Hla.gr g8x; replace Hlb := Hlb.gr g8x; replace Hx := Hx.gr g8x; replace Hy := Hy.gr g8x; replace Hu := Hu.gr g8x; replace Hv := Hv.gr g8x; replace GW := GW.trans g8x; clear g8x; have qlb0 := Hlb.c0; have qlb1 := Hlb.c1; have qb0 := Hb.c0; have qb1 := Hb.c1) | (go_at_call 30; have _t := tok9; (with_reducible refine (KB.out _ GW).mono ?_); rintro r w9x ⟨rfl, g9x⟩; clear tok9; have tok10 : True := trivial; clear qlb0 qlb1 qb0 qb1; replace Ha := Ha.gr g9x; replace Hb := Hb.gr g9x; replace Hla := Hla.gr g9x; replace Hlb := Hlb.gr g9x; replace Hx := Hx.gr g9x; replace Hy := Hy.gr g9x; replace Hu := Hu.gr g9x; replace Hv := Hv.gr g9x; replace GW := GW.trans g9x; clear g9x) | (go_at_call 22; have _t := tok10; (with_reducible refine (awakeL _ (tab_gr HT.out (GZ.trans GW))).mono ?_); rintro r w10x ⟨rfl, g10x⟩; clear tok10; have tok11 : True := trivial; replace Ha := Ha.gr g10x; replace Hb := Hb.gr g10x; replace Hla := Hla.gr g10x; replace Hlb := Hlb.gr g10x; replace Hx := Hx.gr g10x; replace Hy := Hy.gr g10x; replace Hu := Hu.gr g10x; replace Hv := Hv.gr g10x; replace GW := GW.trans g10x; clear g10x))
    go_ret
    exact ⟨rfl, GZ.trans GW⟩
end Go.Proofs.YtniaelpbjgkfmaaDoor
