import Derived.Test.YtnjndegdhhmbaaaGreatP20
import Derived.Test.YtnjndegdhhmbaaaGreatP06
namespace Go.Proofs.YtnjndegdhhmbaaaGreat
open Go.RowKit
set_option linter.unusedVariables false
set_option linter.unusedSimpArgs false

theorem isNoughtTT (s : Bool) (ad : Option Addr) (n cap : Nat) (w : World) (hn : n = 0) : Calls Tryz.prog 76 #[.agg #[.bool s, .slice ad n cap]] w fun r w' => r = .returned (.bool true) ∧ Gr w w' := by
  subst hn
  go_enter Tryz.func76, Tryz.ntmps76
  go_wp2
  go_ret
  exact ⟨rfl, (Gr.refl w).alloc _⟩
theorem isNoughtTF (s : Bool) (ad : Option Addr) (n cap : Nat) (w : World) (hn : ¬ n = 0) : Calls Tryz.prog 76 #[.agg #[.bool s, .slice ad n cap]] w fun r w' => r = .returned (.bool false) ∧ Gr w w' := by
  have hz : ((n : Int) == 0) = false := by simp; omega
  go_enter Tryz.func76, Tryz.ntmps76
  go_wp2
  go_ret
  exact ⟨rfl, (Gr.refl w).alloc _⟩
/-- two numbers' boxes, and one for the answer -/
structure Bx3 (w : World) (p : Nat) (s t : Bool) (ad1 : Option Addr) (n1 c1 : Nat) (ad2 : Option Addr) (n2 c2 : Nat) : Prop where
  a : w.heap[p]? = some (.cells #[.bool s, .slice ad1 n1 c1] 26)
  b : w.heap[p + 1]? = some (.cells #[.bool t, .slice ad2 n2 c2] 26)
  o : w.heap[p + 1 + 1]? = some (.cells #[.bool false, .slice none 0 0] 26)
theorem Bx3.mk' (w : World) (s t : Bool) (ad1 : Option Addr) (n1 c1 : Nat) (ad2 : Option Addr) (n2 c2 : Nat) : Bx3 (((w.alloc (.cells #[.bool s, .slice ad1 n1 c1] 26)).alloc (.cells #[.bool t, .slice ad2 n2 c2] 26)).alloc (.cells #[.bool false, .slice none 0 0] 26)) w.heap.size s t ad1 n1 c1 ad2 n2 c2 := ⟨(blk3 w _ _ _).1, (blk3 w _ _ _).2.1, (blk3 w _ _ _).2.2⟩
theorem Bx3.gr {w w' : World} {p : Nat} {s t : Bool} {ad1 : Option Addr} {n1 c1 : Nat} {ad2 : Option Addr} {n2 c2 : Nat} (h : Bx3 w p s t ad1 n1 c1 ad2 n2 c2) (g : Gr w w') : Bx3 w' p s t ad1 n1 c1 ad2 n2 c2 := ⟨keepO g h.a, keepO g h.b, keepO g h.o⟩
theorem Bx3.a0 {w : World} {p : Nat} {s t : Bool} {ad1 : Option Addr} {n1 c1 : Nat} {ad2 : Option Addr} {n2 c2 : Nat} (h : Bx3 w p s t ad1 n1 c1 ad2 n2 c2) : w.cell? ⟨p, 0, none⟩ = some (.bool s) := (bx2 h.a).1
theorem Bx3.a1 {w : World} {p : Nat} {s t : Bool} {ad1 : Option Addr} {n1 c1 : Nat} {ad2 : Option Addr} {n2 c2 : Nat} (h : Bx3 w p s t ad1 n1 c1 ad2 n2 c2) : w.cell? ⟨p, 1, none⟩ = some (.slice ad1 n1 c1) := (bx2 h.a).2
theorem Bx3.b0 {w : World} {p : Nat} {s t : Bool} {ad1 : Option Addr} {n1 c1 : Nat} {ad2 : Option Addr} {n2 c2 : Nat} (h : Bx3 w p s t ad1 n1 c1 ad2 n2 c2) : w.cell? ⟨p + 1, 0, none⟩ = some (.bool t) := (bx2 h.b).1
theorem Bx3.b1 {w : World} {p : Nat} {s t : Bool} {ad1 : Option Addr} {n1 c1 : Nat} {ad2 : Option Addr} {n2 c2 : Nat} (h : Bx3 w p s t ad1 n1 c1 ad2 n2 c2) : w.cell? ⟨p + 1, 1, none⟩ = some (.slice ad2 n2 c2) := (bx2 h.b).2
theorem tol_zero {w : World} {B : Nat} {Z : Int} (h : Z = 0) : Tol B w false none 0 0 0 Z := by
  subst h
  exact Or.inl ⟨topN_pos, rfl, Wh.nil _, Fresh.nil _ _⟩
set_option maxRecDepth 8000 in
set_option maxHeartbeats 4000000 in
theorem productZ (s t : Bool) (ad1 ad2 : Option Addr) (n1 n2 c1 c2 pd pn : Nat) (X Y : Int) (w : World) (hx : Wh w s ad1 n1 c1 X) (hy : Wh w t ad2 n2 c2 Y) (h0 : n1 = 0 ∨ n2 = 0) :
    Calls Tryz.prog 68 #[.agg #[.bool s, .slice ad1 n1 c1], .agg #[.bool t, .slice ad2 n2 c2], .func (.func 78) #[] #[.pointer (some ⟨pd, 0, none⟩), .pointer (some ⟨pn, 0, none⟩)]] w fun r w' => ∃ a b c d e, r = .returned (.tuple #[.agg #[.bool a, .slice b c d], .int .i64 e]) ∧ Hid (Tol w.heap.size w' a b c d e (X * Y)) ∧ Gr w w' := by
  have Z : Hid (X * Y = 0) := by
    show _ = _
    rcases h0 with h | h
    · rw [hx.n0.1 h, Int.zero_mul]
    · rw [hy.n0.1 h, Int.mul_zero]
  have HR1 : Hid (∀ w1, Gr w w1 → Calls Tryz.prog 32 #[.agg #[.bool s, .slice ad1 n1 c1]] w1 fun r w' => r = .returned (.bool true) ∧ Gr w1 w') := fun w1 g => by
    obtain ⟨xs, rx, dx, hR⟩ := hx.right
    have := rightL s ad1 n1 c1 xs w1 (rx.gr g)
    rw [rightN_t hR] at this
    exact this
  have HR2 : Hid (∀ w1, Gr w w1 → Calls Tryz.prog 32 #[.agg #[.bool t, .slice ad2 n2 c2]] w1 fun r w' => r = .returned (.bool true) ∧ Gr w1 w') := fun w1 g => by
    obtain ⟨xs, rx, dx, hR⟩ := hy.right
    have := rightL t ad2 n2 c2 xs w1 (rx.gr g)
    rw [rightN_t hR] at this
    exact this
  have HB : Bx3 (((w.alloc (.cells #[.bool s, .slice ad1 n1 c1] 26)).alloc (.cells #[.bool t, .slice ad2 n2 c2] 26)).alloc (.cells #[.bool false, .slice none 0 0] 26)) w.heap.size s t ad1 n1 c1 ad2 n2 c2 := Bx3.mk' w _ _ _ _ _ _ _ _
  have GW : Gr w (((w.alloc (.cells #[.bool s, .slice ad1 n1 c1] 26)).alloc (.cells #[.bool t, .slice ad2 n2 c2] 26)).alloc (.cells #[.bool false, .slice none 0 0] 26)) := (((Gr.refl w).alloc _).alloc _).alloc _
  have k0 := HB.a0
  have k1 := HB.a1
  have k2 := HB.b0
  have k3 := HB.b1
  obtain ⟨z0, z1, z2, z3⟩ := Out2.of HB.o
  have tok0 : True := trivial
  clear hx hy
  by_cases hn1 : n1 = 0
  · replace hn1 := hide hn1
    clear h0
    go_enter Tryz.func68, Tryz.ntmps68
    go_wp2_with (first | (go_at_call 32; have _t := tok0; (with_reducible refine (HR1.out _ GW).mono ?_); rintro r w1 ⟨rfl, g1⟩; clear tok0; have tok1 : True := trivial; replace HB := HB.gr g1; clear k0 k1 k2 k3 z0 z1 z2 z3; have k0 := HB.a0; have k1 := HB.a1; have k2 := HB.b0; have k3 := HB.b1; obtain ⟨z0, z1, z2, z3⟩ := Out2.of HB.o; replace GW := GW.trans g1) | (go_at_call 32; have _t := tok1; (with_reducible refine (HR2.out _ GW).mono ?_); rintro r w2 ⟨rfl, g2⟩; clear tok1; have tok2 : True := trivial; replace HB := HB.gr g2; clear k0 k1 k2 k3 z0 z1 z2 z3; have k0 := HB.a0; have k1 := HB.a1; have k2 := HB.b0; have k3 := HB.b1; obtain ⟨z0, z1, z2, z3⟩ := Out2.of HB.o; replace GW := GW.trans g2) | (go_at_call 76; have _t := tok2; (with_reducible refine (isNoughtTT s ad1 n1 c1 _ hn1.out).mono ?_); rintro r w3 ⟨rfl, g3⟩; clear tok2; have tok3 : True := trivial; replace HB := HB.gr g3; clear k0 k1 k2 k3 z0 z1 z2 z3; have k0 := HB.a0; have k1 := HB.a1; have k2 := HB.b0; have k3 := HB.b1; obtain ⟨z0, z1, z2, z3⟩ := Out2.of HB.o; replace GW := GW.trans g3))
    have hG : Hid (Gr w ((w3.setCell ⟨w.heap.size + 1 + 1, 0, none⟩ (.bool false)).setCell ⟨w.heap.size + 1 + 1, 1, none⟩ (.slice none 0 0))) := (GW.setCell (p := ⟨w.heap.size + 1 + 1, 0, none⟩) (by show _ ≤ w.heap.size + 1 + 1; omega) _).setCell (p := ⟨w.heap.size + 1 + 1, 1, none⟩) (by show _ ≤ w.heap.size + 1 + 1; omega) _
    have T8 : Hid (Tol w.heap.size ((w3.setCell ⟨w.heap.size + 1 + 1, 0, none⟩ (.bool false)).setCell ⟨w.heap.size + 1 + 1, 1, none⟩ (.slice none 0 0)) false (none) 0 0 0 (X * Y)) := tol_zero Z.out
    refine bodyPost_ret (v := .tuple #[.agg #[.bool false, .slice none 0 0], .int .i64 0]) ?_ rfl ⟨false, none, 0, 0, 0, rfl, T8.out, hG.out⟩
    simp [results, Tryz.results68, go_sem, z0, z1]
  · have hn2 : Hid (n2 = 0) := by show _ = _; omega
    replace hn1 := hide hn1
    clear h0
    go_enter Tryz.func68, Tryz.ntmps68
    go_wp2_with (first | (go_at_call 32; have _t := tok0; (with_reducible refine (HR1.out _ GW).mono ?_); rintro r w1 ⟨rfl, g1⟩; clear tok0; have tok1 : True := trivial; replace HB := HB.gr g1; clear k0 k1 k2 k3 z0 z1 z2 z3; have k0 := HB.a0; have k1 := HB.a1; have k2 := HB.b0; have k3 := HB.b1; obtain ⟨z0, z1, z2, z3⟩ := Out2.of HB.o; replace GW := GW.trans g1) | (go_at_call 32; have _t := tok1; (with_reducible refine (HR2.out _ GW).mono ?_); rintro r w2 ⟨rfl, g2⟩; clear tok1; have tok2 : True := trivial; replace HB := HB.gr g2; clear k0 k1 k2 k3 z0 z1 z2 z3; have k0 := HB.a0; have k1 := HB.a1; have k2 := HB.b0; have k3 := HB.b1; obtain ⟨z0, z1, z2, z3⟩ := Out2.of HB.o; replace GW := GW.trans g2) | (go_at_call 76; have _t := tok2; (with_reducible refine (isNoughtTF s ad1 n1 c1 _ hn1.out).mono ?_); rintro r w3 ⟨rfl, g3⟩; clear tok2; have tok3 : True := trivial; replace HB := HB.gr g3; clear k0 k1 k2 k3 z0 z1 z2 z3; have k0 := HB.a0; have k1 := HB.a1; have k2 := HB.b0; have k3 := HB.b1; obtain ⟨z0, z1, z2, z3⟩ := Out2.of HB.o; replace GW := GW.trans g3) | (go_at_call 76; have _t := tok3; (with_reducible refine (isNoughtTT t ad2 n2 c2 _ hn2.out).mono ?_); rintro r w4 ⟨rfl, g4⟩; clear tok3; have tok4 : True := trivial; replace HB := HB.gr g4; clear k0 k1 k2 k3 z0 z1 z2 z3; have k0 := HB.a0; have k1 := HB.a1; have k2 := HB.b0; have k3 := HB.b1; obtain ⟨z0, z1, z2, z3⟩ := Out2.of HB.o; replace GW := GW.trans g4))
    have hG : Hid (Gr w ((w4.setCell ⟨w.heap.size + 1 + 1, 0, none⟩ (.bool false)).setCell ⟨w.heap.size + 1 + 1, 1, none⟩ (.slice none 0 0))) := (GW.setCell (p := ⟨w.heap.size + 1 + 1, 0, none⟩) (by show _ ≤ w.heap.size + 1 + 1; omega) _).setCell (p := ⟨w.heap.size + 1 + 1, 1, none⟩) (by show _ ≤ w.heap.size + 1 + 1; omega) _
    have T8 : Hid (Tol w.heap.size ((w4.setCell ⟨w.heap.size + 1 + 1, 0, none⟩ (.bool false)).setCell ⟨w.heap.size + 1 + 1, 1, none⟩ (.slice none 0 0)) false (none) 0 0 0 (X * Y)) := tol_zero Z.out
    refine bodyPost_ret (v := .tuple #[.agg #[.bool false, .slice none 0 0], .int .i64 0]) ?_ rfl ⟨false, none, 0, 0, 0, rfl, T8.out, hG.out⟩
    simp [results, Tryz.results68, go_sem, z0, z1]
end Go.Proofs.YtnjndegdhhmbaaaGreat
namespace Go.Proofs.YtnjndegdhhmbaaaGreat
open Go.RowKit
set_option linter.unusedVariables false
set_option linter.unusedSimpArgs false

theorem iv_mul (s t : Bool) (x y : Nat) : iv s x * iv t y = iv (s != t) (x * y) := by
  cases s <;> cases t <;> simp [iv, Int.neg_mul, Int.mul_neg]
theorem Wh.low {w : World} {s : Bool} {ad : Option Addr} {n cap : Nat} {X : Int} (h : Wh w s ad n cap X) (hn : 0 < n) : 18446744073709551616 ^ (n - 1) ≤ X.natAbs := by
  obtain ⟨xs, rx, dx⟩ := h.lim
  exact dx.lower (by rw [rx.len]; omega)
theorem long_top {a b n1 n2 : Nat} (h1 : 18446744073709551616 ^ (n1 - 1) ≤ a) (h2 : 18446744073709551616 ^ (n2 - 1) ≤ b) (p1 : 0 < n1) (p2 : 0 < n2) (h : 4097 < n1 + n2) : TopN ≤ a * b := by
  have e := K4_eq
  refine Nat.le_trans ?_ (Nat.mul_le_mul h1 h2)
  rw [topN_eq, ← Nat.pow_add]
  exact Nat.pow_le_pow_right (by omega) (by omega)
set_option maxRecDepth 8000 in
set_option maxHeartbeats 4000000 in
theorem productL (s t : Bool) (ad1 ad2 : Option Addr) (n1 n2 c1 c2 pd pn : Nat) (X Y : Int) (w : World) (hx : Wh w s ad1 n1 c1 X) (hy : Wh w t ad2 n2 c2 Y) (p1 : 0 < n1) (p2 : 0 < n2) (hl : 4097 < n1 + n2) :
    Calls Tryz.prog 68 #[.agg #[.bool s, .slice ad1 n1 c1], .agg #[.bool t, .slice ad2 n2 c2], .func (.func 78) #[] #[.pointer (some ⟨pd, 0, none⟩), .pointer (some ⟨pn, 0, none⟩)]] w fun r w' => ∃ a b c d e, r = .returned (.tuple #[.agg #[.bool a, .slice b c d], .int .i64 e]) ∧ Hid (Tol w.heap.size w' a b c d e (X * Y)) ∧ Gr w w' := by
  have LG : Hid (TopN ≤ (X * Y).natAbs) := by
    show _ ≤ _
    rw [Int.natAbs_mul]
    exact long_top (hx.low p1) (hy.low p2) p1 p2 hl
  have HR1 : Hid (∀ w1, Gr w w1 → Calls Tryz.prog 32 #[.agg #[.bool s, .slice ad1 n1 c1]] w1 fun r w' => r = .returned (.bool true) ∧ Gr w1 w') := fun w1 g => by
    obtain ⟨xs, rx, dx, hR⟩ := hx.right
    have := rightL s ad1 n1 c1 xs w1 (rx.gr g)
    rw [rightN_t hR] at this
    exact this
  have HR2 : Hid (∀ w1, Gr w w1 → Calls Tryz.prog 32 #[.agg #[.bool t, .slice ad2 n2 c2]] w1 fun r w' => r = .returned (.bool true) ∧ Gr w1 w') := fun w1 g => by
    obtain ⟨xs, rx, dx, hR⟩ := hy.right
    have := rightL t ad2 n2 c2 xs w1 (rx.gr g)
    rw [rightN_t hR] at this
    exact this
  have HB : Bx3 (((w.alloc (.cells #[.bool s, .slice ad1 n1 c1] 26)).alloc (.cells #[.bool t, .slice ad2 n2 c2] 26)).alloc (.cells #[.bool false, .slice none 0 0] 26)) w.heap.size s t ad1 n1 c1 ad2 n2 c2 := Bx3.mk' w _ _ _ _ _ _ _ _
  have GW : Gr w (((w.alloc (.cells #[.bool s, .slice ad1 n1 c1] 26)).alloc (.cells #[.bool t, .slice ad2 n2 c2] 26)).alloc (.cells #[.bool false, .slice none 0 0] 26)) := (((Gr.refl w).alloc _).alloc _).alloc _
  have k0 := HB.a0
  have k1 := HB.a1
  have k2 := HB.b0
  have k3 := HB.b1
  obtain ⟨z0, z1, z2, z3⟩ := Out2.of HB.o
  have tok0 : True := trivial
  have bn1 := hx.le
  have bn2 := hy.le
  clear hx hy
  have hn1 : Hid (¬ n1 = 0) := by show ¬ _; omega
  have hn2 : Hid (¬ n2 = 0) := by show ¬ _; omega
  have hi : 4097 < (n1 : Int) + (n2 : Int) := by omega
  clear p1 p2 hl
  · go_enter Tryz.func68, Tryz.ntmps68
    go_wp2_with (first | (go_at_call 32; have _t := tok0; (with_reducible refine (HR1.out _ GW).mono ?_); rintro r w1 ⟨rfl, g1⟩; clear tok0; have tok1 : True := trivial; replace HB := HB.gr g1; clear k0 k1 k2 k3 z0 z1 z2 z3; have k0 := HB.a0; have k1 := HB.a1; have k2 := HB.b0; have k3 := HB.b1; obtain ⟨z0, z1, z2, z3⟩ := Out2.of HB.o; replace GW := GW.trans g1) | (go_at_call 32; have _t := tok1; (with_reducible refine (HR2.out _ GW).mono ?_); rintro r w2 ⟨rfl, g2⟩; clear tok1; have tok2 : True := trivial; replace HB := HB.gr g2; clear k0 k1 k2 k3 z0 z1 z2 z3; have k0 := HB.a0; have k1 := HB.a1; have k2 := HB.b0; have k3 := HB.b1; obtain ⟨z0, z1, z2, z3⟩ := Out2.of HB.o; replace GW := GW.trans g2) | (go_at_call 76; have _t := tok2; (with_reducible refine (isNoughtTF s ad1 n1 c1 _ hn1.out).mono ?_); rintro r w3 ⟨rfl, g3⟩; clear tok2; have tok3 : True := trivial; replace HB := HB.gr g3; clear k0 k1 k2 k3 z0 z1 z2 z3; have k0 := HB.a0; have k1 := HB.a1; have k2 := HB.b0; have k3 := HB.b1; obtain ⟨z0, z1, z2, z3⟩ := Out2.of HB.o; replace GW := GW.trans g3) | (go_at_call 76; have _t := tok3; (with_reducible refine (isNoughtTF t ad2 n2 c2 _ hn2.out).mono ?_); rintro r w4 ⟨rfl, g4⟩; clear tok3; have tok4 : True := trivial; replace HB := HB.gr g4; clear k0 k1 k2 k3 z0 z1 z2 z3; have k0 := HB.a0; have k1 := HB.a1; have k2 := HB.b0; have k3 := HB.b1; obtain ⟨z0, z1, z2, z3⟩ := Out2.of HB.o; replace GW := GW.trans g4))
    have hG : Hid (Gr w ((w4.setCell ⟨w.heap.size + 1 + 1, 0, none⟩ (.bool false)).setCell ⟨w.heap.size + 1 + 1, 1, none⟩ (.slice none 0 0))) := (GW.setCell (p := ⟨w.heap.size + 1 + 1, 0, none⟩) (by show _ ≤ w.heap.size + 1 + 1; omega) _).setCell (p := ⟨w.heap.size + 1 + 1, 1, none⟩) (by show _ ≤ w.heap.size + 1 + 1; omega) _
    have T8 : Hid (Tol w.heap.size ((w4.setCell ⟨w.heap.size + 1 + 1, 0, none⟩ (.bool false)).setCell ⟨w.heap.size + 1 + 1, 1, none⟩ (.slice none 0 0)) false (none) 0 0 3 (X * Y)) := Or.inr ⟨LG.out, rfl, rfl, rfl, rfl, rfl⟩
    refine bodyPost_ret (v := .tuple #[.agg #[.bool false, .slice none 0 0], .int .i64 3]) ?_ rfl ⟨false, none, 0, 0, 3, rfl, T8.out, hG.out⟩
    simp [results, Tryz.results68, go_sem, z0, z1]

set_option maxRecDepth 8000 in
set_option maxHeartbeats 8000000 in
theorem productN (s t : Bool) (ad1 ad2 : Option Addr) (n1 n2 c1 c2 pd pn : Nat) (X Y : Int) (w : World) (hx : Wh w s ad1 n1 c1 X) (hy : Wh w t ad2 n2 c2 Y) (hw : Way pd pn 8200 w) (p1 : 0 < n1) (p2 : 0 < n2) (hl : n1 + n2 ≤ 4097) :
    Calls Tryz.prog 68 #[.agg #[.bool s, .slice ad1 n1 c1], .agg #[.bool t, .slice ad2 n2 c2], .func (.func 78) #[] #[.pointer (some ⟨pd, 0, none⟩), .pointer (some ⟨pn, 0, none⟩)]] w fun r w' => ∃ a b c d e, r = .returned (.tuple #[.agg #[.bool a, .slice b c d], .int .i64 e]) ∧ Hid (Tol w.heap.size w' a b c d e (X * Y)) ∧ Gr w w' := by
  have EX : Hid (X * Y = iv (s != t) (X.natAbs * Y.natAbs)) := by
    show _ = _
    rw [← iv_mul, ← hx.val, ← hy.val]
  have XW : Hid (∀ w1, Gr w w1 → Calls Tryz.prog 78 #[.slice ad1 n1 c1, .slice ad2 n2 c2, .pointer (some ⟨pd, 0, none⟩), .pointer (some ⟨pn, 0, none⟩)] w1 fun e w' => Pr w1 (X.natAbs * Y.natAbs) (n1 + n2) e w') := fun w1 g => by
    obtain ⟨xs, rx, dx⟩ := hx.lim
    obtain ⟨ys, ry, dy⟩ := hy.lim
    have := hw w1 g _ _ _ _ _ _ xs ys (rx.gr g) (ry.gr g) dx.2.1 dy.2.1 (by omega)
    rw [dx.1, dy.1] at this
    exact this
  have hA0 : 0 < X.natAbs * Y.natAbs := by
    refine Nat.mul_pos ?_ ?_
    · have := hx.n0; omega
    · have := hy.n0; omega
  obtain ⟨A, hA⟩ : ∃ A, X.natAbs * Y.natAbs = A := ⟨_, rfl⟩
  rw [hA] at EX XW hA0
  clear hA hw
  have HR1 : Hid (∀ w1, Gr w w1 → Calls Tryz.prog 32 #[.agg #[.bool s, .slice ad1 n1 c1]] w1 fun r w' => r = .returned (.bool true) ∧ Gr w1 w') := fun w1 g => by
    obtain ⟨xs, rx, dx, hR⟩ := hx.right
    have := rightL s ad1 n1 c1 xs w1 (rx.gr g)
    rw [rightN_t hR] at this
    exact this
  have HR2 : Hid (∀ w1, Gr w w1 → Calls Tryz.prog 32 #[.agg #[.bool t, .slice ad2 n2 c2]] w1 fun r w' => r = .returned (.bool true) ∧ Gr w1 w') := fun w1 g => by
    obtain ⟨xs, rx, dx, hR⟩ := hy.right
    have := rightL t ad2 n2 c2 xs w1 (rx.gr g)
    rw [rightN_t hR] at this
    exact this
  have HB : Bx3 (((w.alloc (.cells #[.bool s, .slice ad1 n1 c1] 26)).alloc (.cells #[.bool t, .slice ad2 n2 c2] 26)).alloc (.cells #[.bool false, .slice none 0 0] 26)) w.heap.size s t ad1 n1 c1 ad2 n2 c2 := Bx3.mk' w _ _ _ _ _ _ _ _
  have GW : Gr w (((w.alloc (.cells #[.bool s, .slice ad1 n1 c1] 26)).alloc (.cells #[.bool t, .slice ad2 n2 c2] 26)).alloc (.cells #[.bool false, .slice none 0 0] 26)) := (((Gr.refl w).alloc _).alloc _).alloc _
  have k0 := HB.a0
  have k1 := HB.a1
  have k2 := HB.b0
  have k3 := HB.b1
  obtain ⟨z0, z1, z2, z3⟩ := Out2.of HB.o
  have tok0 : True := trivial
  have bn1 := hx.le
  have bn2 := hy.le
  clear hx hy
  have hn1 : Hid (¬ n1 = 0) := by show ¬ _; omega
  have hn2 : Hid (¬ n2 = 0) := by show ¬ _; omega
  have hi : (n1 : Int) + (n2 : Int) ≤ 4097 := by omega
  have HA0 := hide hA0
  clear p1 p2 hl hA0
  go_enter Tryz.func68, Tryz.ntmps68
  go_wp2_with (first | (go_at_call 32; have _t := tok0; (with_reducible refine (HR1.out _ GW).mono ?_); rintro r w1 ⟨rfl, g1⟩; clear tok0; have tok1 : True := trivial; replace HB := HB.gr g1; clear k0 k1 k2 k3 z0 z1 z2 z3; have k0 := HB.a0; have k1 := HB.a1; have k2 := HB.b0; have k3 := HB.b1; obtain ⟨z0, z1, z2, z3⟩ := Out2.of HB.o; replace GW := GW.trans g1) | (go_at_call 32; have _t := tok1; (with_reducible refine (HR2.out _ GW).mono ?_); rintro r w2 ⟨rfl, g2⟩; clear tok1; have tok2 : True := trivial; replace HB := HB.gr g2; clear k0 k1 k2 k3 z0 z1 z2 z3; have k0 := HB.a0; have k1 := HB.a1; have k2 := HB.b0; have k3 := HB.b1; obtain ⟨z0, z1, z2, z3⟩ := Out2.of HB.o; replace GW := GW.trans g2) | (go_at_call 76; have _t := tok2; (with_reducible refine (isNoughtTF s ad1 n1 c1 _ hn1.out).mono ?_); rintro r w3 ⟨rfl, g3⟩; clear tok2; have tok3 : True := trivial; replace HB := HB.gr g3; clear k0 k1 k2 k3 z0 z1 z2 z3; have k0 := HB.a0; have k1 := HB.a1; have k2 := HB.b0; have k3 := HB.b1; obtain ⟨z0, z1, z2, z3⟩ := Out2.of HB.o; replace GW := GW.trans g3) | (go_at_call 76; have _t := tok3; (with_reducible refine (isNoughtTF t ad2 n2 c2 _ hn2.out).mono ?_); rintro r w4 ⟨rfl, g4⟩; clear tok3; have tok4 : True := trivial; replace HB := HB.gr g4; clear k0 k1 k2 k3 z0 z1 z2 z3; have k0 := HB.a0; have k1 := HB.a1; have k2 := HB.b0; have k3 := HB.b1; obtain ⟨z0, z1, z2, z3⟩ := Out2.of HB.o; replace GW := GW.trans g4))
  have hws := GW.size
  have lo0 := lt_of_cell' k0
  have lo2 := lt_of_cell' k2
  have H7 : Hid (∀ t0 t1 t5 t6 t7 t8 t9 t10 t11 t12 t13 t14 t15 t16 t17 t18 t19 t20 t21 t22 t23 t24 t25 t26 t27 t28 t29 t30 t31 t32 t33 t34 t35 t36 t37 t38 t39 t40 t41 t42 t43 t44 t45 t46 t47 t48 t49 t50 t51 : Value, _) := fun t0 t1 t5 t6 t7 t8 t9 t10 t11 t12 t13 t14 t15 t16 t17 t18 t19 t20 t21 t22 t23 t24 t25 t26 t27 t28 t29 t30 t31 t32 t33 t34 t35 t36 t37 t38 t39 t40 t41 t42 t43 t44 t45 t46 t47 t48 t49 t50 t51 => reg1357 t0 t1 t5 t6 t7 t8 t9 t10 t11 t12 t13 t14 t15 t16 t17 t18 t19 t20 t21 t22 t23 t24 t25 t26 t27 t28 t29 t30 t31 t32 t33 t34 t35 t36 t37 t38 t39 t40 t41 t42 t43 t44 t45 t46 t47 t48 t49 t50 t51 w.heap.size (w.heap.size + 1) pd pn n1 c1 n2 c2 A s t ad1 ad2 w4 (fun w1 g => XW.out w1 (GW.trans g)) lo0 lo2 ⟨k0, k1, k2, k3⟩
  refine Code.wp_mono ?_ (H7.out _ _ _ _ _ _ _ _ _ _ _ _ _ _ _ _ _ _ _ _ _ _ _ _ _ _ _ _ _ _ _ _ _ _ _ _ _ _ _ _ _ _ _ _ _ _ _ _ _)
  intro e a1 w5 hR
  cases e <;> first | (exact False.elim hR) | skip
  obtain ⟨u34, u35, u36, u37, u38, u39, u40, u41, u42, u43, u44, u45, u46, bS, ad, nn, cc, rfl, hbS, LM, FR, hb5, g5⟩ := hR
  clear H7 XW lo0 lo2
  replace HB := HB.gr g5
  clear k0 k1 k2 k3 z0 z1 z2 z3
  have k0 := HB.a0
  have k1 := HB.a1
  have k2 := HB.b0
  have k3 := HB.b1
  obtain ⟨z0, z1, z2, z3⟩ := Out2.of HB.o
  replace GW := GW.trans g5
  replace FR := FR.low hws
  obtain ⟨q0, q1⟩ := bx2 hbS
  have tok5 : True := trivial
  obtain ⟨zs, rz, dz⟩ := id LM
  have lz := rz.len
  have hzp : 0 < nn := by
    have := dz.zero_iff (by omega)
    have := HA0.out
    omega
  have hRT : RightN (s != t) zs ↔ nn ≤ 4096 := by
    unfold RightN
    rw [lz]
    constructor
    · rintro (⟨h, _⟩ | ⟨_, h, _⟩) <;> omega
    · intro h; exact Or.inr ⟨hzp, h, dz.2.2 (nn - 1) (by omega)⟩
  have hTop : nn ≤ 4096 ↔ A < TopN := by have := topN_len dz; rw [lz] at this; exact this
  have hAb : (X * Y).natAbs = A := by rw [EX.out, iv_abs]
  by_cases hc : nn ≤ 4096
  · have HR3 : Hid (∀ w1, Gr w5 w1 → Calls Tryz.prog 32 #[.agg #[.bool (s != t), .slice ad nn cc]] w1 fun r w' => r = .returned (.bool true) ∧ Gr w1 w') := fun w1 g => by
      have := rightL (s != t) ad nn cc zs w1 (rz.gr g)
      rw [rightN_t (hRT.2 hc)] at this
      exact this
    have hAt : Hid ((X * Y).natAbs < TopN) := by show _ < _; rw [hAb]; exact hTop.1 hc
    have hcH := hide hc
    clear hRT hTop hAb rz dz lz hc hzp
    generalize hst : (s != t) = st at *
    go_wp2_with (first | (go_at_call 32; have _t := tok5; (with_reducible refine (HR3.out _ (Gr.refl _)).mono ?_); rintro r w6 ⟨rfl, g6⟩; clear tok5; have tok6 : True := trivial; replace HB := HB.gr g6; clear k0 k1 k2 k3 z0 z1 z2 z3; have k0 := HB.a0; have k1 := HB.a1; have k2 := HB.b0; have k3 := HB.b1; obtain ⟨z0, z1, z2, z3⟩ := Out2.of HB.o; replace GW := GW.trans g6; replace hbS := keepO g6 hbS; clear q0 q1; obtain ⟨q0, q1⟩ := bx2 hbS; replace LM := LM.gr g6; replace FR := FR.gr g6))
    have hWh : Wh w6 st ad nn cc (X * Y) := by
      rw [EX.out]
      exact wh_iv LM hcH.out (fun h => by have := HA0.out; omega)
    have T8 := (show Tol w.heap.size w6 st ad nn cc 0 (X * Y) from Or.inl ⟨hAt.out, rfl, hWh, FR⟩).set2 HB.o (.bool st) (.slice ad nn cc) (by decide)
    have hG : Hid (Gr w ((w6.setCell ⟨w.heap.size + 1 + 1, 0, none⟩ (.bool st)).setCell ⟨w.heap.size + 1 + 1, 1, none⟩ (.slice ad nn cc))) := (GW.setCell (p := ⟨w.heap.size + 1 + 1, 0, none⟩) (by show _ ≤ w.heap.size + 1 + 1; omega) _).setCell (p := ⟨w.heap.size + 1 + 1, 1, none⟩) (by show _ ≤ w.heap.size + 1 + 1; omega) _
    have T8 : Hid (Tol w.heap.size ((w6.setCell ⟨w.heap.size + 1 + 1, 0, none⟩ (.bool st)).setCell ⟨w.heap.size + 1 + 1, 1, none⟩ (.slice ad nn cc)) st (ad) nn cc 0 (X * Y)) := T8
    refine bodyPost_ret (v := .tuple #[.agg #[.bool st, .slice ad nn cc], .int .i64 0]) ?_ rfl ⟨st, ad, nn, cc, 0, rfl, T8.out, hG.out⟩
    simp [results, Tryz.results68, go_sem, z0, z1]
  · have HR3 : Hid (∀ w1, Gr w5 w1 → Calls Tryz.prog 32 #[.agg #[.bool (s != t), .slice ad nn cc]] w1 fun r w' => r = .returned (.bool false) ∧ Gr w1 w') := fun w1 g => by
      have := rightL (s != t) ad nn cc zs w1 (rz.gr g)
      rw [rightN_f (fun h => hc (hRT.1 h))] at this
      exact this
    have hAt : Hid (TopN ≤ (X * Y).natAbs) := by show _ ≤ _; rw [hAb]; exact Nat.not_lt.1 (fun h => hc (hTop.2 h))
    clear hRT hTop hAb rz dz lz hc hzp
    generalize hst : (s != t) = st at *
    go_wp2_with (first | (go_at_call 32; have _t := tok5; (with_reducible refine (HR3.out _ (Gr.refl _)).mono ?_); rintro r w6 ⟨rfl, g6⟩; clear tok5; have tok6 : True := trivial; replace HB := HB.gr g6; clear k0 k1 k2 k3 z0 z1 z2 z3; have k0 := HB.a0; have k1 := HB.a1; have k2 := HB.b0; have k3 := HB.b1; obtain ⟨z0, z1, z2, z3⟩ := Out2.of HB.o; replace GW := GW.trans g6; replace hbS := keepO g6 hbS; clear q0 q1; obtain ⟨q0, q1⟩ := bx2 hbS; replace LM := LM.gr g6; replace FR := FR.gr g6))
    have hG : Hid (Gr w ((w6.setCell ⟨w.heap.size + 1 + 1, 0, none⟩ (.bool false)).setCell ⟨w.heap.size + 1 + 1, 1, none⟩ (.slice none 0 0))) := (GW.setCell (p := ⟨w.heap.size + 1 + 1, 0, none⟩) (by show _ ≤ w.heap.size + 1 + 1; omega) _).setCell (p := ⟨w.heap.size + 1 + 1, 1, none⟩) (by show _ ≤ w.heap.size + 1 + 1; omega) _
    have T8 : Hid (Tol w.heap.size ((w6.setCell ⟨w.heap.size + 1 + 1, 0, none⟩ (.bool false)).setCell ⟨w.heap.size + 1 + 1, 1, none⟩ (.slice none 0 0)) false (none) 0 0 3 (X * Y)) := Or.inr ⟨hAt.out, rfl, rfl, rfl, rfl, rfl⟩
    refine bodyPost_ret (v := .tuple #[.agg #[.bool false, .slice none 0 0], .int .i64 3]) ?_ rfl ⟨false, none, 0, 0, 3, rfl, T8.out, hG.out⟩
    simp [results, Tryz.results68, go_sem, z0, z1]
end Go.Proofs.YtnjndegdhhmbaaaGreat
