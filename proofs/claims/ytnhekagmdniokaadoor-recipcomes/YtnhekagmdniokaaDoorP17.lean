import Derived.Test.YtnhekagmdniokaaDoorP16
import Derived.Test.YtnhekagmdniokaaDoorP15
namespace Go.Proofs.YtnhekagmdniokaaDoor
open Go.RowKit
set_option linter.unusedVariables false
set_option linter.unusedSimpArgs false

theorem isNoughtTT (s : Bool) (ad : Option Addr) (n cap : Nat) (w : World) (hn : n = 0) : Calls Tryd.prog 85 #[.agg #[.bool s, .slice ad n cap]] w fun r w' => r = .returned (.bool true) ∧ Gr w w' := by
  subst hn
  go_enter Tryd.func85, Tryd.ntmps85
  go_wp2
  go_ret
  exact ⟨rfl, (Gr.refl w).alloc _⟩
theorem isNoughtTF (s : Bool) (ad : Option Addr) (n cap : Nat) (w : World) (hn : ¬ n = 0) : Calls Tryd.prog 85 #[.agg #[.bool s, .slice ad n cap]] w fun r w' => r = .returned (.bool false) ∧ Gr w w' := by
  have hz : ((n : Int) == 0) = false := by simp; omega
  go_enter Tryd.func85, Tryd.ntmps85
  go_wp2
  go_ret
  exact ⟨rfl, (Gr.refl w).alloc _⟩
/-- two numbers' boxes, and one for the answer -/
structure Bx3 (w : World) (p : Nat) (s t : Bool) (ad1 : Option Addr) (n1 c1 : Nat) (ad2 : Option Addr) (n2 c2 : Nat) : Prop where
  a : w.heap[p]? = some (.cells #[.bool s, .slice ad1 n1 c1] 24)
  b : w.heap[p + 1]? = some (.cells #[.bool t, .slice ad2 n2 c2] 24)
  o : w.heap[p + 1 + 1]? = some (.cells #[.bool false, .slice none 0 0] 24)
theorem Bx3.mk' (w : World) (s t : Bool) (ad1 : Option Addr) (n1 c1 : Nat) (ad2 : Option Addr) (n2 c2 : Nat) : Bx3 (((w.alloc (.cells #[.bool s, .slice ad1 n1 c1] 24)).alloc (.cells #[.bool t, .slice ad2 n2 c2] 24)).alloc (.cells #[.bool false, .slice none 0 0] 24)) w.heap.size s t ad1 n1 c1 ad2 n2 c2 := ⟨(blk3 w _ _ _).1, (blk3 w _ _ _).2.1, (blk3 w _ _ _).2.2⟩
theorem Bx3.gr {w w' : World} {p : Nat} {s t : Bool} {ad1 : Option Addr} {n1 c1 : Nat} {ad2 : Option Addr} {n2 c2 : Nat} (h : Bx3 w p s t ad1 n1 c1 ad2 n2 c2) (g : Gr w w') : Bx3 w' p s t ad1 n1 c1 ad2 n2 c2 := ⟨keepO g h.a, keepO g h.b, keepO g h.o⟩
theorem Bx3.a0 {w : World} {p : Nat} {s t : Bool} {ad1 : Option Addr} {n1 c1 : Nat} {ad2 : Option Addr} {n2 c2 : Nat} (h : Bx3 w p s t ad1 n1 c1 ad2 n2 c2) : w.cell? ⟨p, 0, none⟩ = some (.bool s) := (bx2 h.a).1
theorem Bx3.a1 {w : World} {p : Nat} {s t : Bool} {ad1 : Option Addr} {n1 c1 : Nat} {ad2 : Option Addr} {n2 c2 : Nat} (h : Bx3 w p s t ad1 n1 c1 ad2 n2 c2) : w.cell? ⟨p, 1, none⟩ = some (.slice ad1 n1 c1) := (bx2 h.a).2
theorem Bx3.b0 {w : World} {p : Nat} {s t : Bool} {ad1 : Option Addr} {n1 c1 : Nat} {ad2 : Option Addr} {n2 c2 : Nat} (h : Bx3 w p s t ad1 n1 c1 ad2 n2 c2) : w.cell? ⟨p + 1, 0, none⟩ = some (.bool t) := (bx2 h.b).1
theorem Bx3.b1 {w : World} {p : Nat} {s t : Bool} {ad1 : Option Addr} {n1 c1 : Nat} {ad2 : Option Addr} {n2 c2 : Nat} (h : Bx3 w p s t ad1 n1 c1 ad2 n2 c2) : w.cell? ⟨p + 1, 1, none⟩ = some (.slice ad2 n2 c2) := (bx2 h.b).2
theorem tol_zero {w : World} {B : Nat} {Z : Int} (h : Z = 0) : Tol B w false none 0 0 0 Z := by
  subst h
  exact Or.inl ⟨topN_pos, rfl, Wh.nil _, Fresh.nil _ _⟩
set_option maxRecDepth 8000 in
set_option maxHeartbeats 4000000 in
theorem productZ (s t : Bool) (ad1 ad2 : Option Addr) (n1 n2 c1 c2 pd pn : Nat) (X Y : Int) (w : World) (hx : Wh w s ad1 n1 c1 X) (hy : Wh w t ad2 n2 c2 Y) (h0 : n1 = 0 ∨ n2 = 0) :
    Calls Tryd.prog 77 #[.agg #[.bool s, .slice ad1 n1 c1], .agg #[.bool t, .slice ad2 n2 c2], .func (.func 87) #[] #[.pointer (some ⟨pd, 0, none⟩), .pointer (some ⟨pn, 0, none⟩)]] w fun r w' => ∃ a b c d e, r = .returned (.tuple #[.agg #[.bool a, .slice b c d], .int .i64 e]) ∧ Hid (Tol w.heap.size w' a b c d e (X * Y)) ∧ Gr w w' := by
  have Z : Hid (X * Y = 0) := by
    show _ = _
    rcases h0 with h | h
    · rw [hx.n0.1 h, Int.zero_mul]
    · rw [hy.n0.1 h, Int.mul_zero]
  have HR1 : Hid (∀ w1, Gr w w1 → Calls Tryd.prog 23 #[.agg #[.bool s, .slice ad1 n1 c1]] w1 fun r w' => r = .returned (.bool true) ∧ Gr w1 w') := fun w1 g => by
    obtain ⟨xs, rx, dx, hR⟩ := hx.right
    have := rightL s ad1 n1 c1 xs w1 (rx.gr g)
    rw [rightN_t hR] at this
    exact this
  have HR2 : Hid (∀ w1, Gr w w1 → Calls Tryd.prog 23 #[.agg #[.bool t, .slice ad2 n2 c2]] w1 fun r w' => r = .returned (.bool true) ∧ Gr w1 w') := fun w1 g => by
    obtain ⟨xs, rx, dx, hR⟩ := hy.right
    have := rightL t ad2 n2 c2 xs w1 (rx.gr g)
    rw [rightN_t hR] at this
    exact this
  have HB : Bx3 (((w.alloc (.cells #[.bool s, .slice ad1 n1 c1] 24)).alloc (.cells #[.bool t, .slice ad2 n2 c2] 24)).alloc (.cells #[.bool false, .slice none 0 0] 24)) w.heap.size s t ad1 n1 c1 ad2 n2 c2 := Bx3.mk' w _ _ _ _ _ _ _ _
  have GW : Gr w (((w.alloc (.cells #[.bool s, .slice ad1 n1 c1] 24)).alloc (.cells #[.bool t, .slice ad2 n2 c2] 24)).alloc (.cells #[.bool false, .slice none 0 0] 24)) := (((Gr.refl w).alloc _).alloc _).alloc _
  have k0 := HB.a0
  have k1 := HB.a1
  have k2 := HB.b0
  have k3 := HB.b1
  obtain ⟨z0, z1, z2, z3⟩ := Out2.of HB.o
  have tok0 : True := trivial
  clear hx hy
  by_cases hn1 : n1 = 0
  · replace hn1 := hide hn1
    clear h0
    go_enter Tryd.func77, Tryd.ntmps77
    go_wp2_with (first | (go_at_call 23; have _t := tok0; (with_reducible refine (HR1.out _ GW).mono ?_); rintro r w1 ⟨rfl, g1⟩; clear tok0; have tok1 : True := trivial; replace HB := HB.gr g1; clear k0 k1 k2 k3 z0 z1 z2 z3; have k0 := HB.a0; have k1 := HB.a1; have k2 := HB.b0; have k3 := HB.b1; obtain ⟨z0, z1, z2, z3⟩ := Out2.of HB.o; replace GW := GW.trans g1) | (go_at_call 23; have _t := tok1; (with_reducible refine (HR2.out _ GW).mono ?_); rintro r w2 ⟨rfl, g2⟩; clear tok1; have tok2 : True := trivial; replace HB := HB.gr g2; clear k0 k1 k2 k3 z0 z1 z2 z3; have k0 := HB.a0; have k1 := HB.a1; have k2 := HB.b0; have k3 := HB.b1; obtain ⟨z0, z1, z2, z3⟩ := Out2.of HB.o; replace GW := GW.trans g2) | (go_at_call 85; have _t := tok2; (with_reducible refine (isNoughtTT s ad1 n1 c1 _ hn1.out).mono ?_); rintro r w3 ⟨rfl, g3⟩; clear tok2; have tok3 : True := trivial; replace HB := HB.gr g3; clear k0 k1 k2 k3 z0 z1 z2 z3; have k0 := HB.a0; have k1 := HB.a1; have k2 := HB.b0; have k3 := HB.b1; obtain ⟨z0, z1, z2, z3⟩ := Out2.of HB.o; replace GW := GW.trans g3))
    have hG : Hid (Gr w ((w3.setCell ⟨w.heap.size + 1 + 1, 0, none⟩ (.bool false)).setCell ⟨w.heap.size + 1 + 1, 1, none⟩ (.slice none 0 0))) := (GW.setCell (p := ⟨w.heap.size + 1 + 1, 0, none⟩) (by show _ ≤ w.heap.size + 1 + 1; omega) _).setCell (p := ⟨w.heap.size + 1 + 1, 1, none⟩) (by show _ ≤ w.heap.size + 1 + 1; omega) _
    have T8 : Hid (Tol w.heap.size ((w3.setCell ⟨w.heap.size + 1 + 1, 0, none⟩ (.bool false)).setCell ⟨w.heap.size + 1 + 1, 1, none⟩ (.slice none 0 0)) false (none) 0 0 0 (X * Y)) := tol_zero Z.out
    refine bodyPost_ret (v := .tuple #[.agg #[.bool false, .slice none 0 0], .int .i64 0]) ?_ rfl ⟨false, none, 0, 0, 0, rfl, T8.out, hG.out⟩
    simp [results, Tryd.results77, go_sem, z0, z1]
  · have hn2 : Hid (n2 = 0) := by show _ = _; omega
    replace hn1 := hide hn1
    clear h0
    go_enter Tryd.func77, Tryd.ntmps77
    go_wp2_with (first | (go_at_call 23; have _t := tok0; (with_reducible refine (HR1.out _ GW).mono ?_); rintro r w1 ⟨rfl, g1⟩; clear tok0; have tok1 : True := trivial; replace HB := HB.gr g1; clear k0 k1 k2 k3 z0 z1 z2 z3; have k0 := HB.a0; have k1 := HB.a1; have k2 := HB.b0; have k3 := HB.b1; obtain ⟨z0, z1, z2, z3⟩ := Out2.of HB.o; replace GW := GW.trans g1) | (go_at_call 23; have _t := tok1; (with_reducible refine (HR2.out _ GW).mono ?_); rintro r w2 ⟨rfl, g2⟩; clear tok1; have tok2 : True := trivial; replace HB := HB.gr g2; clear k0 k1 k2 k3 z0 z1 z2 z3; have k0 := HB.a0; have k1 := HB.a1; have k2 := HB.b0; have k3 := HB.b1; obtain ⟨z0, z1, z2, z3⟩ := Out2.of HB.o; replace GW := GW.trans g2) | (go_at_call 85; have _t := tok2; (with_reducible refine (isNoughtTF s ad1 n1 c1 _ hn1.out).mono ?_); rintro r w3 ⟨rfl, g3⟩; clear tok2; have tok3 : True := trivial; replace HB := HB.gr g3; clear k0 k1 k2 k3 z0 z1 z2 z3; have k0 := HB.a0; have k1 := HB.a1; have k2 := HB.b0; have k3 := HB.b1; obtain ⟨z0, z1, z2, z3⟩ := Out2.of HB.o; replace GW := GW.trans g3) | (go_at_call 85; have _t := tok3; (with_reducible refine (isNoughtTT t ad2 n2 c2 _ hn2.out).mono ?_); rintro r w4 ⟨rfl, g4⟩; clear tok3; have tok4 : True := trivial; replace HB := HB.gr g4; clear k0 k1 k2 k3 z0 z1 z2 z3; have k0 := HB.a0; have k1 := HB.a1; have k2 := HB.b0; have k3 := HB.b1; obtain ⟨z0, z1, z2, z3⟩ := Out2.of HB.o; replace GW := GW.trans g4))
    have hG : Hid (Gr w ((w4.setCell ⟨w.heap.size + 1 + 1, 0, none⟩ (.bool false)).setCell ⟨w.heap.size + 1 + 1, 1, none⟩ (.slice none 0 0))) := (GW.setCell (p := ⟨w.heap.size + 1 + 1, 0, none⟩) (by show _ ≤ w.heap.size + 1 + 1; omega) _).setCell (p := ⟨w.heap.size + 1 + 1, 1, none⟩) (by show _ ≤ w.heap.size + 1 + 1; omega) _
    have T8 : Hid (Tol w.heap.size ((w4.setCell ⟨w.heap.size + 1 + 1, 0, none⟩ (.bool false)).setCell ⟨w.heap.size + 1 + 1, 1, none⟩ (.slice none 0 0)) false (none) 0 0 0 (X * Y)) := tol_zero Z.out
    refine bodyPost_ret (v := .tuple #[.agg #[.bool false, .slice none 0 0], .int .i64 0]) ?_ rfl ⟨false, none, 0, 0, 0, rfl, T8.out, hG.out⟩
    simp [results, Tryd.results77, go_sem, z0, z1]
end Go.Proofs.YtnhekagmdniokaaDoor
namespace Go.Proofs.YtnhekagmdniokaaDoor
open Go.RowKit
set_option linter.unusedVariables false

/-! limb: Cmp, Of, Small -/
theorem own1 (w : World) (v : Nat) : (w.alloc (.cells #[.int .u64 (v : Int)] 26)).ownsRow w.heap.size 26 1 (.slice (some ⟨w.heap.size, 0, none⟩) 1 1) 1 (u64s [v]) :=
  ⟨by simp [u64s], .inr ⟨w.heap.size, 1, #[.int .u64 (v : Int)], rfl, Nat.le_refl _, blk1 w _, Nat.le_refl _, by unfold maxLen; omega, rfl, by simp [u64s]⟩⟩
theorem at2 {wo : World} {b : Nat} {v0 v1 a0 a1 : Value} (h0 : wo.cell? ⟨b, 0, none⟩ = some a0) (h1 : wo.cell? ⟨b, 1, none⟩ = some a1) :
    ((wo.setCell ⟨b, 0, none⟩ v0).setCell ⟨b, 1, none⟩ v1).cell? ⟨b, 0, none⟩ = some v0 ∧ ((wo.setCell ⟨b, 0, none⟩ v0).setCell ⟨b, 1, none⟩ v1).cell? ⟨b, 1, none⟩ = some v1 := by
  have ne : ∀ i j : Nat, i ≠ j → (⟨b, i, none⟩ : Addr) ≠ ⟨b, j, none⟩ := fun i j hij e => hij (by injection e)
  refine ⟨?_, ?_⟩
  · rw [World.cell?_setCell_other _ _ _ _ (ne 1 0 (by omega))]
    exact World.cell?_setCell_same _ _ _ h0
  · refine World.cell?_setCell_same _ _ _ (u := a1) ?_
    rw [World.cell?_setCell_other _ _ _ _ (ne 0 1 (by omega))]
    exact h1
theorem lt_top {x : Nat} (h : x < 18446744073709551616) : x < TopN := topN_bl.1 (by have := bl64 h; omega)
set_option maxHeartbeats 1600000 in
theorem ofL (n : Int) (h1 : -9223372036854775808 ≤ n) (h2 : n ≤ 9223372036854775807) (w : World) :
    Calls Tryd.prog 36 #[.int .i64 n] w fun r w' => ∃ a b c d, r = .returned (.agg #[.bool a, .slice b c d]) ∧ Hid (Wh w' a b c d n) ∧ Hid (Fresh w.heap.size w' b c d) ∧ Gr w w' := by
  have hv : n.natAbs < 18446744073709551616 := by omega
  have ST : Hid (∀ (q : Bool), iv q n.natAbs = n → ∀ w1 : World, Gr w w1 → Calls Tryd.prog 51 #[.bool q, .slice (some ⟨w1.heap.size, 0, none⟩) 1 1] (w1.alloc (.cells #[.int .u64 (n.natAbs : Int)] 26)) fun r w' => ∃ a b c d, r = .returned (.tuple #[.agg #[.bool a, .slice b c d], .int .i64 0]) ∧ Hid (Wh w' a b c d n) ∧ Hid (Fresh w.heap.size w' b c d) ∧ Gr w1 w') := fun q hq w1 g => by
    refine (settleL q _ 1 1 _ n.natAbs [n.natAbs] _ (own1 w1 n.natAbs) (by simpa using hv) (by simp [nv]) (by omega)).mono ?_
    rintro r w' ⟨a, b, c, d, e, k1, k2, k3⟩
    rw [hq] at k2
    obtain ⟨rfl, k4, k5⟩ := k2.out.fits (lt_top hv)
    exact ⟨a, b, c, d, k1, k4, k5.low g.size, ((Gr.refl w1).alloc _).trans k3⟩
  have B1 := blk1 w (.cells #[.bool false, .slice none 0 0] 24)
  have GA : Gr w (w.alloc (.cells #[.bool false, .slice none 0 0] 24)) := (Gr.refl w).alloc _
  have e0 : (w.alloc (.cells #[.bool false, .slice none 0 0] 24)).heap.size = w.heap.size + 1 := by simp
  by_cases hn : n < 0
  · have e1 : iv true n.natAbs = n := by rw [iv_t]; omega
    have e2 : IntKind.u64.wrap (-(IntKind.u64.wrap n)) = (n.natAbs : Int) := by rw [IntKind.wrap_u64, IntKind.wrap_u64]; omega
    have SX : Hid (Calls Tryd.prog 51 #[.bool true, .slice (some ⟨w.heap.size + 1, 0, none⟩) 1 1] ((w.alloc (.cells #[.bool false, .slice none 0 0] 24)).alloc (.cells #[.int .u64 (n.natAbs : Int)] 26)) fun r w' => ∃ a b c d, r = .returned (.tuple #[.agg #[.bool a, .slice b c d], .int .i64 0]) ∧ Hid (Wh w' a b c d n) ∧ Hid (Fresh w.heap.size w' b c d) ∧ Gr (w.alloc (.cells #[.bool false, .slice none 0 0] 24)) w') := by
      rw [← e0]
      exact ST.out true e1 _ GA
    clear ST e1
    have hW : Hid (n = n) := rfl
    generalize n.natAbs = m at *
    go_enter Tryd.func36, Tryd.ntmps36
    go_wp2_with (first | (go_at_call 51; (with_reducible refine Calls.mono SX.out ?_); rintro r w1 ⟨a, b, c, d, rfl, hw, hf, g1⟩; have hb := keepO g1 B1; obtain ⟨k0, k1, k2, k3⟩ := Out2.of hb; have hne := lt_of_get2 hb))
    have hQ := hf.out.ne hb (by decide)
    have z0 := keepG ((Gr.refl _).alloc (.cells #[.bool a, .slice b c d] 24)) (at2 (v0 := .bool a) (v1 := .slice b c d) k0 k1).1
    have z1 := keepG ((Gr.refl _).alloc (.cells #[.bool a, .slice b c d] 24)) (at2 (v0 := .bool a) (v1 := .slice b c d) k0 k1).2
    refine bodyPost_ret (v := .agg #[.bool a, .slice b c d]) ?_ rfl ⟨a, b, c, d, rfl, ((hw.out.far hQ _).far hQ _).gr ((Gr.refl _).alloc _), ((hf.out.far hQ _).far hQ _).gr ((Gr.refl _).alloc _), (((GA.trans g1).setCell (p := ⟨w.heap.size, 0, none⟩) (Nat.le_refl _) _).setCell (p := ⟨w.heap.size, 1, none⟩) (Nat.le_refl _) _).alloc _⟩
    simp [results, Tryd.results36, go_sem, z0, z1]
  · have e1 : iv false n.natAbs = n := by rw [iv_f]; omega
    have e2 : IntKind.u64.wrap n = (n.natAbs : Int) := by rw [IntKind.wrap_u64]; omega
    have e3 : n = (n.natAbs : Int) := by omega
    have SX : Hid (Calls Tryd.prog 51 #[.bool false, .slice (some ⟨w.heap.size + 1, 0, none⟩) 1 1] ((w.alloc (.cells #[.bool false, .slice none 0 0] 24)).alloc (.cells #[.int .u64 (n.natAbs : Int)] 26)) fun r w' => ∃ a b c d, r = .returned (.tuple #[.agg #[.bool a, .slice b c d], .int .i64 0]) ∧ Hid (Wh w' a b c d n) ∧ Hid (Fresh w.heap.size w' b c d) ∧ Gr (w.alloc (.cells #[.bool false, .slice none 0 0] 24)) w') := by
      rw [← e0]
      exact ST.out false e1 _ GA
    clear ST e1
    have hW : Hid (n = n) := rfl
    generalize n.natAbs = m at *
    subst e3
    go_enter Tryd.func36, Tryd.ntmps36
    go_wp2_with (first | (go_at_call 51; (with_reducible refine Calls.mono SX.out ?_); rintro r w1 ⟨a, b, c, d, rfl, hw, hf, g1⟩; have hb := keepO g1 B1; obtain ⟨k0, k1, k2, k3⟩ := Out2.of hb; have hne := lt_of_get2 hb))
    have hQ := hf.out.ne hb (by decide)
    have z0 := keepG ((Gr.refl _).alloc (.cells #[.bool a, .slice b c d] 24)) (at2 (v0 := .bool a) (v1 := .slice b c d) k0 k1).1
    have z1 := keepG ((Gr.refl _).alloc (.cells #[.bool a, .slice b c d] 24)) (at2 (v0 := .bool a) (v1 := .slice b c d) k0 k1).2
    refine bodyPost_ret (v := .agg #[.bool a, .slice b c d]) ?_ rfl ⟨a, b, c, d, rfl, ((hw.out.far hQ _).far hQ _).gr ((Gr.refl _).alloc _), ((hf.out.far hQ _).far hQ _).gr ((Gr.refl _).alloc _), (((GA.trans g1).setCell (p := ⟨w.heap.size, 0, none⟩) (Nat.le_refl _) _).setCell (p := ⟨w.heap.size, 1, none⟩) (Nat.le_refl _) _).alloc _⟩
    simp [results, Tryd.results36, go_sem, z0, z1]
end Go.Proofs.YtnhekagmdniokaaDoor
namespace Go.Proofs.YtnhekagmdniokaaDoor
open Go.RowKit
set_option linter.unusedVariables false

/-! limb: Small, Shift -/
def smB (X : Int) : Bool := decide (-9223372036854775808 ≤ X ∧ X ≤ 9223372036854775807)
def smI (X : Int) : Int := if smB X then X else 0
set_option maxHeartbeats 1600000 in
theorem smallL (s : Bool) (ad : Option Addr) (n cap : Nat) (X : Int) (w : World) (hx : Wh w s ad n cap X) :
    Calls Tryd.prog 35 #[.agg #[.bool s, .slice ad n cap]] w fun r w' => r = .returned (.tuple #[.int .i64 (smI X), .bool (smB X)]) ∧ Gr w w' := by
  have RA : Hid (∀ w1, Gr w w1 → Calls Tryd.prog 23 #[.agg #[.bool s, .slice ad n cap]] w1 fun r w' => r = .returned (.bool true) ∧ Gr w1 w') := fun w1 g => by
    obtain ⟨xs, rx, dx, hR⟩ := hx.right
    have := rightL s ad n cap xs w1 (rx.gr g)
    rw [rightN_t hR] at this
    exact this
  obtain ⟨xs, rx, dx⟩ := hx.lim
  have hval := hx.val
  have hz := hx.n0
  have hsg := hx.neg_iff
  have GA : Gr w (w.alloc (.cells #[.bool s, .slice ad n cap] 24)) := (Gr.refl w).alloc _
  have B1 := bx2 (blk1 w (.cells #[.bool s, .slice ad n cap] 24))
  have hlen := rx.len
  by_cases hn : (n : Int) ≤ 1
  · have CL0 : ∀ (q : Nat) (w1 : World), w1.cell? ⟨q, 0, none⟩ = some (.slice ad n cap) → Gr w w1 → Calls Tryd.prog 70 #[.int .i64 0, .pointer (some ⟨q, 0, none⟩)] w1 fun e w' => e = .returned (.int .u64 ((xs.getD 0 0 : Nat) : Int)) ∧ w' = w1 := fun q w1 h g => by
      have := limbAtL q ad n cap xs ((0 : Nat) : Int) w1 h (rx.gr g)
      rw [xa_nat] at this
      exact this
    have hv : xs.getD 0 0 = X.natAbs := by
      have := dx.digit 0
      rw [this, Nat.pow_zero, Nat.div_one, Nat.mod_eq_of_lt]
      have h1 := dx.upper
      rcases (show n = 0 ∨ n = 1 by omega) with h | h
      · rw [hlen, h] at h1; omega
      · rw [hlen, h] at h1; omega
    have hb : X.natAbs < 18446744073709551616 := by rw [← hv]; exact getD_lt (by omega) dx.2.1 0
    rw [hv] at CL0
    have CL : Hid (∀ (q : Nat) (w1 : World), w1.cell? ⟨q, 0, none⟩ = some (.slice ad n cap) → Gr w w1 → Calls Tryd.prog 70 #[.int .i64 0, .pointer (some ⟨q, 0, none⟩)] w1 fun e w' => e = .returned (.int .u64 (X.natAbs : Int)) ∧ w' = w1) := CL0
    clear CL0 rx dx hx hlen hz hv
    generalize X.natAbs = v at *
    cases s
    · rw [iv_f] at hval
      rw [← hval] at CL
      have hX0 : 0 ≤ X := by omega
      have hX1 : X < 18446744073709551616 := by omega
      clear hval hb
      by_cases h : X < 9223372036854775808
      · rw [show smB X = true from decide_eq_true (by omega), show smI X = X from if_pos (decide_eq_true (by omega))]
        have e1 : IntKind.i64.wrap X = X := by rw [IntKind.wrap_i64]; omega
        clear hsg
        go_enter Tryd.func35, Tryd.ntmps35
        go_wp2_with (first | (go_at_call 23; (with_reducible refine (RA.out _ GA).mono ?_); rintro r w1 ⟨rfl, g1⟩; have x0 := keepG g1 B1.1; have x1 := keepG g1 B1.2; have G1 := GA.trans g1) | (go_at_call 50; (with_reducible refine (limbsOfL _ _ _ _).mono ?_); rintro r w2 ⟨rfl, hb2, g2⟩; have y0 := keepG g2 x0; have y1 := keepG g2 x1) | (go_at_call 70; (with_reducible refine (CL.out _ _ hb2 (G1.trans g2)).mono ?_); rintro r w3 ⟨rfl, rfl⟩))
        go_ret2
        exact ⟨rfl, G1.trans g2⟩
      · rw [show smB X = false from decide_eq_false (by omega), show smI X = 0 from if_neg (by rw [show smB X = false from decide_eq_false (by omega)]; decide)]
        have h' : 9223372036854775808 ≤ X := by omega
        clear hsg
        go_enter Tryd.func35, Tryd.ntmps35
        go_wp2_with (first | (go_at_call 23; (with_reducible refine (RA.out _ GA).mono ?_); rintro r w1 ⟨rfl, g1⟩; have x0 := keepG g1 B1.1; have x1 := keepG g1 B1.2; have G1 := GA.trans g1) | (go_at_call 50; (with_reducible refine (limbsOfL _ _ _ _).mono ?_); rintro r w2 ⟨rfl, hb2, g2⟩; have y0 := keepG g2 x0; have y1 := keepG g2 x1) | (go_at_call 70; (with_reducible refine (CL.out _ _ hb2 (G1.trans g2)).mono ?_); rintro r w3 ⟨rfl, rfl⟩))
        go_ret2
        exact ⟨rfl, G1.trans g2⟩
    · rw [iv_t] at hval
      subst hval
      by_cases h : (v : Int) ≤ 9223372036854775808
      · rw [show smB (-(v : Int)) = true from decide_eq_true (by omega), show smI (-(v : Int)) = -(v : Int) from if_pos (decide_eq_true (by omega))]
        have e1 : IntKind.i64.wrap (IntKind.u64.wrap (-(v : Int))) = -(v : Int) := by rw [IntKind.wrap_i64, IntKind.wrap_u64]; omega
        clear hsg
        go_enter Tryd.func35, Tryd.ntmps35
        go_wp2_with (first | (go_at_call 23; (with_reducible refine (RA.out _ GA).mono ?_); rintro r w1 ⟨rfl, g1⟩; have x0 := keepG g1 B1.1; have x1 := keepG g1 B1.2; have G1 := GA.trans g1) | (go_at_call 50; (with_reducible refine (limbsOfL _ _ _ _).mono ?_); rintro r w2 ⟨rfl, hb2, g2⟩; have y0 := keepG g2 x0; have y1 := keepG g2 x1) | (go_at_call 70; (with_reducible refine (CL.out _ _ hb2 (G1.trans g2)).mono ?_); rintro r w3 ⟨rfl, rfl⟩))
        go_ret2
        exact ⟨rfl, G1.trans g2⟩
      · rw [show smB (-(v : Int)) = false from decide_eq_false (by omega), show smI (-(v : Int)) = 0 from if_neg (by rw [show smB (-(v : Int)) = false from decide_eq_false (by omega)]; decide)]
        have h' : 9223372036854775808 ≤ (v : Int) := by omega
        clear hsg
        go_enter Tryd.func35, Tryd.ntmps35
        go_wp2_with (first | (go_at_call 23; (with_reducible refine (RA.out _ GA).mono ?_); rintro r w1 ⟨rfl, g1⟩; have x0 := keepG g1 B1.1; have x1 := keepG g1 B1.2; have G1 := GA.trans g1) | (go_at_call 50; (with_reducible refine (limbsOfL _ _ _ _).mono ?_); rintro r w2 ⟨rfl, hb2, g2⟩; have y0 := keepG g2 x0; have y1 := keepG g2 x1) | (go_at_call 70; (with_reducible refine (CL.out _ _ hb2 (G1.trans g2)).mono ?_); rintro r w3 ⟨rfl, rfl⟩))
        go_ret2
        exact ⟨rfl, G1.trans g2⟩
  · have hn' : 1 < (n : Int) := by omega
    have hb : 18446744073709551616 ≤ X.natAbs := by
      have := dx.lower (k := n - 1) (by omega)
      have h2 : 18446744073709551616 ^ 1 ≤ 18446744073709551616 ^ (n - 1) := Nat.pow_le_pow_right (by omega) (by omega)
      omega
    have hf : smB X = false := decide_eq_false (by omega)
    rw [hf, show smI X = 0 from if_neg (by rw [hf]; decide)]
    clear hval hz hsg rx dx hx hb hf
    go_enter Tryd.func35, Tryd.ntmps35
    go_wp2_with (first | (go_at_call 23; (with_reducible refine (RA.out _ GA).mono ?_); rintro r w1 ⟨rfl, g1⟩; have x0 := keepG g1 B1.1; have x1 := keepG g1 B1.2; have G1 := GA.trans g1))
    go_ret2
    exact ⟨rfl, G1⟩
end Go.Proofs.YtnhekagmdniokaaDoor
