import Derived.Test.YtapnglidnblmcaaGreatV05
import Derived.Laws.AppendOwnNone
import Derived.LoopTactic
namespace Go.Proofs.YtapnglidnblmcaaGreat
open Go.RowKit
set_option linter.unusedVariables false

theorem iv_val {w : World} {s : Bool} {ad : Option Addr} {n cap : Nat} {X : Int} (h : Wh w s ad n cap X) : iv s X.natAbs = X := h.val.symm
theorem boxes2 (w : World) (s t : Bool) (ad1 ad2 : Option Addr) (n1 n2 c1 c2 : Nat) : ((((w.alloc (.cells #[.bool s, .slice ad1 n1 c1] 24)).alloc (.cells #[.bool t, .slice ad2 n2 c2] 24)).alloc (.cells #[.bool false, .slice none 0 0] 24)).cell? ⟨w.heap.size, 0, none⟩ = some (.bool s) ∧ (((w.alloc (.cells #[.bool s, .slice ad1 n1 c1] 24)).alloc (.cells #[.bool t, .slice ad2 n2 c2] 24)).alloc (.cells #[.bool false, .slice none 0 0] 24)).cell? ⟨w.heap.size, 1, none⟩ = some (.slice ad1 n1 c1) ∧ (((w.alloc (.cells #[.bool s, .slice ad1 n1 c1] 24)).alloc (.cells #[.bool t, .slice ad2 n2 c2] 24)).alloc (.cells #[.bool false, .slice none 0 0] 24)).cell? ⟨w.heap.size + 1, 0, none⟩ = some (.bool t) ∧ (((w.alloc (.cells #[.bool s, .slice ad1 n1 c1] 24)).alloc (.cells #[.bool t, .slice ad2 n2 c2] 24)).alloc (.cells #[.bool false, .slice none 0 0] 24)).cell? ⟨w.heap.size + 1, 1, none⟩ = some (.slice ad2 n2 c2)) ∧ ((((w.alloc (.cells #[.bool s, .slice ad1 n1 c1] 24)).alloc (.cells #[.bool t, .slice ad2 n2 c2] 24)).alloc (.cells #[.bool false, .slice none 0 0] 24)).cell? ⟨w.heap.size + 1 + 1, 0, none⟩ = some (cellV (((w.alloc (.cells #[.bool s, .slice ad1 n1 c1] 24)).alloc (.cells #[.bool t, .slice ad2 n2 c2] 24)).alloc (.cells #[.bool false, .slice none 0 0] 24)) (w.heap.size + 1 + 1) 0) ∧ (((w.alloc (.cells #[.bool s, .slice ad1 n1 c1] 24)).alloc (.cells #[.bool t, .slice ad2 n2 c2] 24)).alloc (.cells #[.bool false, .slice none 0 0] 24)).cell? ⟨w.heap.size + 1 + 1, 1, none⟩ = some (cellV (((w.alloc (.cells #[.bool s, .slice ad1 n1 c1] 24)).alloc (.cells #[.bool t, .slice ad2 n2 c2] 24)).alloc (.cells #[.bool false, .slice none 0 0] 24)) (w.heap.size + 1 + 1) 1) ∧ (((w.alloc (.cells #[.bool s, .slice ad1 n1 c1] 24)).alloc (.cells #[.bool t, .slice ad2 n2 c2] 24)).alloc (.cells #[.bool false, .slice none 0 0] 24)).frozen? ⟨w.heap.size + 1 + 1, 0, none⟩ = false ∧ (((w.alloc (.cells #[.bool s, .slice ad1 n1 c1] 24)).alloc (.cells #[.bool t, .slice ad2 n2 c2] 24)).alloc (.cells #[.bool false, .slice none 0 0] 24)).frozen? ⟨w.heap.size + 1 + 1, 1, none⟩ = false) ∧ Gr w (((w.alloc (.cells #[.bool s, .slice ad1 n1 c1] 24)).alloc (.cells #[.bool t, .slice ad2 n2 c2] 24)).alloc (.cells #[.bool false, .slice none 0 0] 24)) := by
  have B3 := blk3 w (.cells #[.bool s, .slice ad1 n1 c1] 24) (.cells #[.bool t, .slice ad2 n2 c2] 24) (.cells #[.bool false, .slice none 0 0] 24)
  obtain ⟨x0, x1⟩ := bx2 B3.1
  obtain ⟨y0, y1⟩ := bx2 B3.2.1
  obtain ⟨z0, z1, z2, z3⟩ := Out2.of B3.2.2
  exact ⟨⟨x0, x1, y0, y1⟩, ⟨cellV_some z0, cellV_some z1, z2, z3⟩, (((Gr.refl w).alloc _).alloc _).alloc _⟩

set_option maxHeartbeats 1600000 in
theorem addL (s t : Bool) (ad1 ad2 : Option Addr) (n1 n2 c1 c2 : Nat) (X Y : Int) (w : World) (hx : Wh w s ad1 n1 c1 X) (hy : Wh w t ad2 n2 c2 Y) :
    Calls Tryz.prog 86 #[.agg #[.bool s, .slice ad1 n1 c1], .agg #[.bool t, .slice ad2 n2 c2]] w fun r w' => ∃ a b c d e, r = .returned (.tuple #[.agg #[.bool a, .slice b c d], .int .i64 e]) ∧ Hid (Tol w.heap.size w' a b c d e (X + Y)) ∧ Gr w w' := by
  have RA : Hid (∀ w1, Gr w w1 → Calls Tryz.prog 25 #[.agg #[.bool s, .slice ad1 n1 c1]] w1 fun r w' => r = .returned (.bool true) ∧ Gr w1 w') := fun w1 g => by
    obtain ⟨xs, rx, dx, hR⟩ := hx.right
    have := rightL s ad1 n1 c1 xs w1 (rx.gr g)
    rw [rightN_t hR] at this
    exact this
  have RB : Hid (∀ w1, Gr w w1 → Calls Tryz.prog 25 #[.agg #[.bool t, .slice ad2 n2 c2]] w1 fun r w' => r = .returned (.bool true) ∧ Gr w1 w') := fun w1 g => by
    obtain ⟨xs, rx, dx, hR⟩ := hy.right
    have := rightL t ad2 n2 c2 xs w1 (rx.gr g)
    rw [rightN_t hR] at this
    exact this
  have SU : Hid (∀ w1, Gr w w1 → Calls Tryz.prog 98 #[.agg #[.bool s, .slice ad1 n1 c1], .agg #[.bool t, .slice ad2 n2 c2]] w1 fun r w' => ∃ a b c d e, r = .returned (.tuple #[.agg #[.bool a, .slice b c d], .int .i64 e]) ∧ Hid (Tol w.heap.size w' a b c d e (X + Y)) ∧ Gr w1 w') := fun w1 g => by
    refine (sumL s t ad1 ad2 n1 n2 c1 c2 X.natAbs Y.natAbs w1 (hx.lim.gr g) (hy.lim.gr g) hx.le hy.le).mono ?_
    rintro r w' ⟨a, b, c, d, e, h1, h2, h3⟩
    refine ⟨a, b, c, d, e, h1, ?_, h3⟩
    have := h2.out.low g.size
    rw [iv_val hx, iv_val hy] at this
    exact this
  clear hx hy
  have GA : Gr w (((w.alloc (.cells #[.bool s, .slice ad1 n1 c1] 24)).alloc (.cells #[.bool t, .slice ad2 n2 c2] 24)).alloc (.cells #[.bool false, .slice none 0 0] 24)) := (((Gr.refl w).alloc _).alloc _).alloc _
  have S0 : Hid _ := boxes2 w s t ad1 ad2 n1 n2 c1 c2
  have HO : Hid _ := (blk3 w (.cells #[.bool s, .slice ad1 n1 c1] 24) (.cells #[.bool t, .slice ad2 n2 c2] 24) (.cells #[.bool false, .slice none 0 0] 24)).2.2
  have tok0 : True := trivial
  go_enter Tryz.func86, Tryz.ntmps86
  go_wp2_with (first | (go_at_call 25; have _t := tok0; (with_reducible refine (RA.out _ GA).mono ?_); rintro r w1 ⟨rfl, g1⟩; clear tok0; have S1 := keepL4 g1 S0.out; have x0 := S1.1.1; have x1 := S1.1.2.1; have y0 := S1.1.2.2.1; have y1 := S1.1.2.2.2; have G1 := S1.2.2) | (go_at_call 25; (with_reducible refine (RB.out _ G1).mono ?_); rintro r w2 ⟨rfl, g2⟩; have S2 := keepL4 g2 S1; clear x0 x1 y0 y1; have x0 := S2.1.1; have x1 := S2.1.2.1; have y0 := S2.1.2.2.1; have y1 := S2.1.2.2.2; have G2 := S2.2.2) | (go_at_call 98; (with_reducible refine (SU.out _ G2).mono ?_); rintro r w3 ⟨a6, b6, c6, d6, e6, rfl, T6, g3⟩; have hb6 := keepO g3 (keepO g2 (keepO g1 HO.out)); obtain ⟨k0, k1, k2, k3⟩ := Out2.of hb6; have G3 := G2.trans g3; clear S1 S2 x0 x1 y0 y1 G1))
  refine bodyPost_ret (v := .tuple #[.agg #[.bool a6, .slice b6 c6 d6], .int .i64 e6]) ?_ rfl ⟨a6, b6, c6, d6, e6, rfl, T6.out.set2 hb6 _ _ (by decide), (G3.setCell (p := ⟨w.heap.size + 1 + 1, 0, none⟩) (by show _ ≤ w.heap.size + 1 + 1; omega) _).setCell (p := ⟨w.heap.size + 1 + 1, 1, none⟩) (by show _ ≤ w.heap.size + 1 + 1; omega) _⟩
  simp [results, Tryz.results86, go_sem, k0, k1]

theorem bitsL (s : Bool) (ad : Option Addr) (n cap : Nat) (X : Int) (w : World) (hx : Wh w s ad n cap X) :
    Calls Tryz.prog 54 #[.agg #[.bool s, .slice ad n cap]] w fun r w' => r = .returned (.tuple #[.int .i64 (bl X.natAbs : Int), .int .i64 0]) ∧ Gr w w' := by
  have RA : Hid (∀ w1, Gr w w1 → Calls Tryz.prog 25 #[.agg #[.bool s, .slice ad n cap]] w1 fun r w' => r = .returned (.bool true) ∧ Gr w1 w') := fun w1 g => by
    obtain ⟨xs, rx, dx, hR⟩ := hx.right
    have := rightL s ad n cap xs w1 (rx.gr g)
    rw [rightN_t hR] at this
    exact this
  have HL : Hid (∀ w1, Gr w w1 → Calls Tryz.prog 73 #[.slice ad n cap] w1 fun r w' => r = .returned (.int .i64 (bl X.natAbs : Int)) ∧ Gr w1 w') := fun w1 g => bitLengthL ad n cap _ w1 (hx.lim.gr g) (by have := hx.le; omega)
  clear hx
  have GA : Gr w (w.alloc (.cells #[.bool s, .slice ad n cap] 24)) := (Gr.refl w).alloc _
  have B1 := bx2 (blk1 w (.cells #[.bool s, .slice ad n cap] 24))
  go_enter Tryz.func54, Tryz.ntmps54
  go_wp2_with (first | (go_at_call 25; (with_reducible refine (RA.out _ GA).mono ?_); rintro r w1 ⟨rfl, g1⟩; have x0 := keepG g1 B1.1; have x1 := keepG g1 B1.2) | (go_at_call 73; (with_reducible refine (HL.out _ (GA.trans g1)).mono ?_); rintro r w2 ⟨rfl, g2⟩))
  go_ret2
  exact ⟨rfl, (GA.trans g1).trans g2⟩
end Go.Proofs.YtapnglidnblmcaaGreat
namespace Go.Proofs.YtapnglidnblmcaaGreat
open Go.RowKit
set_option linter.unusedVariables false

/-! limb: Cmp, Of, Small -/
theorem own1 (w : World) (v : Nat) : (w.alloc (.cells #[.int .u64 (v : Int)] 71)).ownsRow w.heap.size 71 1 (.slice (some ⟨w.heap.size, 0, none⟩) 1 1) 1 (u64s [v]) :=
  ⟨by simp [u64s], .inr ⟨w.heap.size, 1, #[.int .u64 (v : Int)], rfl, Nat.le_refl _, blk1 w _, Nat.le_refl _, by unfold maxLen; omega, rfl, by simp [u64s]⟩⟩
theorem lt_top {x : Nat} (h : x < 18446744073709551616) : x < TopN := topN_bl.1 (by have := bl64 h; omega)
end Go.Proofs.YtapnglidnblmcaaGreat
namespace Go.Proofs.YtapnglidnblmcaaGreat
open Go.RowKit
set_option linter.unusedVariables false

/-! limb: Small, Shift -/
end Go.Proofs.YtapnglidnblmcaaGreat
namespace Go.Proofs.YtapnglidnblmcaaGreat
open Go.RowKit
set_option linter.unusedVariables false

/-! limb: Shift -/
theorem row_own {w : World} {B N C : Nat} {ad : Option Addr} {zs : List Nat} (h : w.ownsRow B 71 1 (.slice ad N C) N (u64s zs)) : Row w ad N C zs := by
  obtain ⟨ad', cap', hEq, hrow⟩ := Row.of_owns h
  simp only [Value.slice.injEq, true_and] at hEq
  obtain ⟨rfl, rfl⟩ := hEq
  exact hrow
end Go.Proofs.YtapnglidnblmcaaGreat
namespace Go.Proofs.YtapnglidnblmcaaGreat
open Go.RowKit
set_option linter.unusedVariables false

/-! rosettekit.SameLimbs, SameInt; rosetteref00.NatTrim; rosettemade.Whole -/
set_option maxHeartbeats 800000 in
theorem sameLimbsT (ad1 ad2 : Option Addr) (n c1 c2 : Nat) (xs : List Nat) (w : World) (rx : Row w ad1 n c1 xs) (ry : Row w ad2 n c2 xs) :
    Calls Tryz.prog 41 #[.slice ad1 n c1, .slice ad2 n c2] w fun e w' => e = .returned (.bool true) ∧ Gr w w' := by
  have RX : Hid (Row w ad1 n c1 xs) := rx
  have RY : Hid (Row w ad2 n c2 xs) := ry
  have hmax := rx.max
  have hle := rx.le
  clear rx ry
  go_enter Tryz.func41, Tryz.ntmps41
  go_wp2
  go_loopw [5] (fun i wr => ∃ k : Nat, k ≤ n ∧ i = .int .i64 (k : Int) ∧ Hid (Gr w wr)) (fun i _ => n - (intOf i).toNat)
  case atStart => exact ⟨0, by omega, rfl, Gr.refl _⟩
  case round =>
    obtain ⟨k, hk, rfl, hg⟩ := hrel
    by_cases hlt : k < n
    · obtain ⟨p1, o1, rfl, hb1, hc1⟩ := RX.out.lt (by omega)
      obtain ⟨p2, o2, rfl, hb2, hc2⟩ := RY.out.lt (by omega)
      have hcell1 := hc1 wr hg.out k hlt
      have hcell2 := hc2 wr hg.out k hlt
      generalize xs.getD k 0 = xk at *
      have i1 : (k : Int) < (n : Int) := by omega
      clear hc1 hc2
      go_wp2
      go_quiet (fail)
      go_wp2
      go_roundw
      case rel => exact ⟨k + 1, by omega, by go_num, by first | exact hg.out | exact hg.out.drewN _ | exact (hg.out.drewN _).drewN _⟩
      case measure => simp only [intOf]; omega
    · have hkn : k = n := by omega
      subst hkn
      go_wp2
      go_ret
      exact ⟨rfl, hg.out⟩
set_option maxHeartbeats 800000 in
theorem sameLimbsF (ad1 ad2 : Option Addr) (n1 n2 c1 c2 : Nat) (xs ys : List Nat) (w : World) (rx : Row w ad1 n1 c1 xs) (ry : Row w ad2 n2 c2 ys) (hne : xs ≠ ys) :
    Calls Tryz.prog 41 #[.slice ad1 n1 c1, .slice ad2 n2 c2] w fun e w' => e = .returned (.bool false) ∧ Gr w w' := by
  by_cases hn : n1 = n2
  · subst hn
    have RX : Hid (Row w ad1 n1 c1 xs) := rx
    have RY : Hid (Row w ad2 n1 c2 ys) := ry
    have hmax := rx.max
    have hle := rx.le
    have HNE : Hid (xs ≠ ys) := hne
    clear rx ry hne
    go_enter Tryz.func41, Tryz.ntmps41
    go_wp2
    go_loopw [5] (fun i wr => ∃ k : Nat, k ≤ n1 ∧ i = .int .i64 (k : Int) ∧ Hid (∀ j, j < k → xs.getD j 0 = ys.getD j 0) ∧ Hid (Gr w wr)) (fun i _ => n1 - (intOf i).toNat)
    case atStart => exact ⟨0, by omega, rfl, (fun j hj => absurd hj (by omega)), Gr.refl _⟩
    case round =>
      obtain ⟨k, hk, rfl, he, hg⟩ := hrel
      by_cases hlt : k < n1
      · obtain ⟨p1, o1, rfl, hb1, hc1⟩ := RX.out.lt (by omega)
        obtain ⟨p2, o2, rfl, hb2, hc2⟩ := RY.out.lt (by omega)
        have hcell1 := hc1 wr hg.out k hlt
        have hcell2 := hc2 wr hg.out k hlt
        have i1 : (k : Int) < (n1 : Int) := by omega
        clear hc1 hc2
        by_cases h : xs.getD k 0 = ys.getD k 0
        · have HE : Hid (∀ j, j < k + 1 → xs.getD j 0 = ys.getD j 0) := fun j hj => if e : j = k then e ▸ h else he.out j (by omega)
          rw [h] at hcell1
          clear h
          generalize ys.getD k 0 = yk at *
          go_wp2
          go_quiet (fail)
          go_wp2
          go_roundw
          case rel => exact ⟨k + 1, by omega, by go_num, HE.out, by first | exact hg.out | exact hg.out.drewN _ | exact (hg.out.drewN _).drewN _⟩
          case measure => simp only [intOf]; omega
        · generalize xs.getD k 0 = xk at *
          generalize ys.getD k 0 = yk at *
          have h' : ((xk : Int) != (yk : Int)) = true := by simp; omega
          clear h
          go_wp2
          go_quiet (fail)
          go_wp2
          go_ret
          exact ⟨rfl, by first | exact hg.out | exact hg.out.drewN _ | exact (hg.out.drewN _).drewN _⟩
      · have hkn : k = n1 := by omega
        subst hkn
        exact absurd (ext_getD (by rw [RX.out.len, RY.out.len]) (fun j hj => he.out j (by rw [← RX.out.len]; exact hj))) HNE.out
  · have hne' : ((n1 : Int) != (n2 : Int)) = true := by simp; omega
    clear rx ry hne
    go_enter Tryz.func41, Tryz.ntmps41
    go_wp2
    go_ret
    exact ⟨rfl, Gr.refl _⟩
def eqI (X Y : Int) : Bool := decide (X = Y)
theorem eqI_t {X Y : Int} (h : X = Y) : eqI X Y = true := decide_eq_true h
theorem eqI_f {X Y : Int} (h : X ≠ Y) : eqI X Y = false := decide_eq_false h
set_option maxHeartbeats 800000 in
/-- SameInt of two right whole numbers -/
theorem sameIntL (s t : Bool) (ad1 ad2 : Option Addr) (n1 n2 c1 c2 : Nat) (X Y : Int) (w : World) (hx : Wh w s ad1 n1 c1 X) (hy : Wh w t ad2 n2 c2 Y) :
    Calls Tryz.prog 15 #[.agg #[.bool s, .slice ad1 n1 c1], .agg #[.bool t, .slice ad2 n2 c2]] w fun r w' => r = .returned (.bool (eqI X Y)) ∧ Gr w w' := by
  have GA : Gr w ((w.alloc (.cells #[.bool s, .slice ad1 n1 c1] 24)).alloc (.cells #[.bool t, .slice ad2 n2 c2] 24)) := ((Gr.refl w).alloc _).alloc _
  by_cases hst : (s == t) = true
  · have e : s = t := by simpa using hst
    have SL : Hid (∀ w1, Gr w w1 → Calls Tryz.prog 41 #[.slice ad1 n1 c1, .slice ad2 n2 c2] w1 fun r w' => r = .returned (.bool (eqI X Y)) ∧ Gr w1 w') := fun w1 g => by
      obtain ⟨xs, rx, dx⟩ := hx.lim
      obtain ⟨ys, ry, dy⟩ := hy.lim
      by_cases h : X = Y
      · rw [eqI_t h]
        subst h
        have e2 := dx.unique (by omega) dy
        subst e2
        obtain rfl : n1 = n2 := rx.len.symm.trans ry.len
        exact sameLimbsT ad1 ad2 n1 c1 c2 xs w1 (rx.gr g) (ry.gr g)
      · rw [eqI_f h]
        refine sameLimbsF ad1 ad2 n1 n2 c1 c2 xs ys w1 (rx.gr g) (ry.gr g) (fun e2 => h ?_)
        have h1 : X.natAbs = Y.natAbs := by rw [← dx.1, ← dy.1, e2]
        rw [hx.val, hy.val, h1, e]
    clear hx hy e
    generalize eqI X Y = q at *
    go_enter Tryz.func15, Tryz.ntmps15
    go_wp2_with (go_at_call 41; (with_reducible refine (SL.out _ GA).mono ?_); rintro r w1 ⟨rfl, g1⟩)
    go_ret
    exact ⟨rfl, GA.trans g1⟩
  · have hst' : (s == t) = false := by simpa using hst
    have h : X ≠ Y := fun e => by
      have h1 := hx.neg_iff
      have h2 := hy.neg_iff
      rw [e] at h1
      have : s = t := by cases s <;> cases t <;> simp_all <;> omega
      rw [this] at hst'
      simp at hst'
    rw [eqI_f h]
    clear hx hy hst
    go_enter Tryz.func15, Tryz.ntmps15
    go_wp2
    go_ret
    exact ⟨rfl, GA⟩
set_option maxRecDepth 10000 in
theorem natTrimL (ad : Option Addr) (n cap : Nat) (xs : List Nat) (w : World) (h : Row w ad n cap xs) (hn : n ≤ 1099511627776) (hx : ∀ x ∈ xs, x < 18446744073709551616) :
    Calls Tryz.prog 43 #[.slice ad n cap] w fun e w' => ∃ ad' n' cap', e = .returned (.slice ad' n' cap') ∧ n' ≤ n ∧ Hid (Lim w' ad' n' cap' 18446744073709551616 (nv 18446744073709551616 xs)) ∧ Hid (Fresh w.heap.size w' ad' n' cap') ∧ Gr w w' := by
  have h1 := h.le
  have h2 := h.max
  have H : Hid (Row w ad n cap xs) := h
  have HX : Hid (∀ x ∈ xs, x < 18446744073709551616) := hx
  clear h hx
  obtain ⟨i0, hi, hz0, hz1, hz2⟩ := info_parts Tryz.info71
  go_enter Tryz.func43, Tryz.ntmps43
  go_wp2
  go_loop [3] (fun t => ∃ k : Nat, k ≤ n ∧ t = .int .i64 k ∧ Hid (∀ i, k ≤ i → i < n → xs.getD i 0 = 0)) (fun t => (intOf t).toNat)
  case atStart => exact ⟨n, Nat.le_refl _, rfl, fun i a b => absurd b (by omega)⟩
  case round =>
    obtain ⟨k, hk, rfl, hz⟩ := hrel
    by_cases hk0 : k = 0
    · subst hk0
      have fin : ∀ w', Gr w w' → Lim w' none 0 0 18446744073709551616 (nv 18446744073709551616 xs) := by
        intro w' hg
        refine ⟨[], Row.empty (by omega) (fun _ => rfl), ?_⟩
        have := trim_dg (k := 0) HX.out (Nat.zero_le _) (fun i a b => hz.out i a (by rw [← H.out.len]; exact b)) (Or.inl rfl)
        simpa using this
      cases ad with
      | none =>
        have hc0 := H.out.nil rfl
        subst hc0
        go_wp2_with (at_builtin; refine wpList_append_own_none rfl _ _ 22 rfl w.heap.size 71 i0 1 Tryz.underlying22 hi _ _ _ rfl (World.ownsRow_nil _ _ _ _) rfl ?_)
        go_ret
        exact ⟨none, 0, 0, rfl, by omega, fin _ (Gr.refl _), Fresh.nil _ _, Gr.refl _⟩
      | some a =>
        go_wp2
        go_ret
        exact ⟨none, 0, 0, rfl, by omega, fin _ (Gr.refl _), Fresh.nil _ _, Gr.refl _⟩
    · obtain ⟨b, off, rfl, hb, hc⟩ := H.out.cells (by omega)
      have hcell := hc (k - 1) (by omega)
      have HC : Hid (∀ j, j < n → w.cell? ⟨b, off + j, none⟩ = some (.int .u64 ((xs.getD j 0 : Nat) : Int))) := hc
      clear hc
      by_cases hx : xs.getD (k - 1) 0 = 0
      · rw [hx] at hcell
        go_wp2
        go_round
        case rel => exact ⟨k - 1, by omega, by go_num, fun i a b => if e : i = k - 1 then e ▸ hx else hz.out i (by omega) b⟩
        case measure => simp [intOf]; omega
      · have HX0 : Hid (xs.getD (k - 1) 0 ≠ 0) := hx
        generalize hv : xs.getD (k - 1) 0 = v at hcell hx
        have hv0 : (((v : Nat) : Int) == 0) = false := by simp; omega
        clear hv hx
        go_wp2_with (at_builtin; refine wpList_append_own _ rfl _ _ 22 rfl w.heap.size 71 i0 (.int .u64 0) 1 8 Tryz.underlying22 hi hz0 hz1 hz2 rfl (by decide) _ _ _ rfl (World.ownsRow_nil _ _ _ _) ⟨b, off, none⟩ k cap (u64s (xs.take k)) rfl ?c1 ?c2 ?c3 ?c4 ?c5 ?c6 ?_)
        case c1 => rw [u64s_length, List.length_take, H.out.len]; omega
        case c2 => exact cells_u64 HC.out k hk H.out.len
        case c3 => exact one_u64 _
        case c4 => unfold maxLen; omega
        case c5 => omega
        intro v' w' hown hgr _
        have hown' : w'.ownsRow w.heap.size 71 1 v' k (u64s (xs.take k)) := by simpa using hown
        obtain ⟨ad', cap', rfl, hrow⟩ := Row.of_owns hown'
        have HO : Hid (Fresh w.heap.size w' ad' k cap') := ⟨_, hown'⟩
        clear hown hown'
        go_wp2
        go_ret
        exact ⟨_, _, _, rfl, by omega, ⟨_, hrow, trim_dg HX.out (by rw [H.out.len]; exact hk) (fun i a b => hz.out i a (by rw [← H.out.len]; exact b)) (Or.inr HX0.out)⟩, HO.out, (Gr.refl w).grown hgr (fun k h => by cases h)⟩
end Go.Proofs.YtapnglidnblmcaaGreat
namespace Go.Proofs.YtapnglidnblmcaaGreat
open Go.RowKit
set_option linter.unusedVariables false

/-! rosettelaw13: of, is, awake; rosettemade.Whole.Int -/
theorem row1 (W : World) (v : Nat) : Row (W.alloc (.cells #[.int .u64 (v : Int)] 71)) (some ⟨W.heap.size, 0, none⟩) 1 1 [v] := row_own (own1 W v)
theorem wh1 (W : World) (s : Bool) (v : Nat) (v0 : 0 < v) (v1 : v < 18446744073709551616) : Wh (W.alloc (.cells #[.int .u64 (v : Int)] 71)) s (some ⟨W.heap.size, 0, none⟩) 1 1 (iv s v) := by
  have := Wh.of (s := s) (row1 W v) (by simpa using v1) (Or.inr ⟨by simp, by simp, by simp; omega⟩)
  have e : nv 18446744073709551616 [v] = v := by simp [nv]
  rw [e] at this
  exact this
/-- the right whole number of plain limbs, of at most so many -/
theorem nv_take_lt {xs : List Nat} (h : ∀ x ∈ xs, x < 18446744073709551616) (m : Nat) : nv 18446744073709551616 (xs.take m) < 18446744073709551616 ^ m := by
  refine Nat.lt_of_lt_of_le (nv_lt _ _ (fun x hx => h x (List.mem_of_mem_take hx))) (Nat.pow_le_pow_right (by omega) ?_)
  rw [List.length_take]; omega
theorem wh_iv {w : World} {s : Bool} {ad : Option Addr} {n cap v : Nat} (hl : Lim w ad n cap 18446744073709551616 v) (hn : n ≤ 4096) (h0 : v = 0 → s = false) : Wh w s ad n cap (iv s v) :=
  ⟨by rw [iv_abs]; exact hl, hn, (fun h => h0 (by rw [← iv_abs s v, h]; rfl)), by rw [iv_abs]⟩
theorem lim_nil {w : World} {ad : Option Addr} {n cap v : Nat} (hl : Lim w ad n cap 18446744073709551616 v) (h : v = 0) : n = 0 := by
  obtain ⟨xs, rx, dx⟩ := hl
  have := (dx.zero_iff (by omega)).2 h
  rw [rx.len] at this
  exact this
theorem lim_some {w : World} {ad : Option Addr} {n cap v : Nat} (hl : Lim w ad n cap 18446744073709551616 v) (h : v ≠ 0) : 0 < n := by
  obtain ⟨xs, rx, dx⟩ := hl
  have := (dx.zero_iff (by omega)).1
  rw [rx.len] at this
  omega
set_option maxHeartbeats 1600000 in
theorem wholeInt (s : Bool) (ad : Option Addr) (n cap m : Nat) (xs : List Nat) (w : World) (rx : Row w ad n cap xs) (hx : ∀ x ∈ xs, x < 18446744073709551616) (hm : m ≤ 4096) :
    Calls Tryz.prog 17 #[.agg #[.bool s, .slice ad n cap], .int .i64 (m : Int)] w fun r w' => ∃ t b c d X, r = .returned (.agg #[.bool t, .slice b c d]) ∧ Hid (Wh w' t b c d X) ∧ Hid (Fresh w.heap.size w' b c d) ∧ Hid (X.natAbs < 18446744073709551616 ^ m) ∧ Gr w w' := by
  have hmax := rx.max
  have hle := rx.le
  obtain ⟨k, hk⟩ : ∃ k, k = min n m := ⟨_, rfl⟩
  have hkm : k ≤ m := by omega
  have NT : Hid (∀ w1, Gr w w1 → Calls Tryz.prog 43 #[.slice ad k cap] w1 fun e w' => ∃ b c d, e = .returned (.slice b c d) ∧ c ≤ k ∧ Hid (Lim w' b c d 18446744073709551616 (nv 18446744073709551616 (xs.take k))) ∧ Hid (Fresh w.heap.size w' b c d) ∧ Gr w1 w') := fun w1 g => (natTrimL ad k cap (xs.take k) w1 ((rx.take k (by omega)).gr g) (by omega) (fun x h => hx x (List.mem_of_mem_take h))).mono (by
    rintro e w' ⟨b, c, d, h1, h2, h3, h4, h5⟩
    exact ⟨b, c, d, h1, h2, h3, h4.out.low g.size, h5⟩)
  have LT : Hid (nv 18446744073709551616 (xs.take k) < 18446744073709551616 ^ m) := by
    refine Nat.lt_of_lt_of_le (nv_take_lt hx k) (Nat.pow_le_pow_right (by omega) hkm)
  generalize nv 18446744073709551616 (xs.take k) = v at *
  have GA : Gr w ((w.alloc (.cells #[.bool s, .slice ad n cap] 40)).alloc (.cells #[.bool false, .slice none 0 0] 24)) := ((Gr.refl w).alloc _).alloc _
  have B2 := blk2 w (.cells #[.bool s, .slice ad n cap] 40) (.cells #[.bool false, .slice none 0 0] 24)
  have X2 := bx2 B2.1
  have HO := B2.2
  clear B2 rx hx
  by_cases hnm : (m : Int) < (n : Int)
  · obtain rfl : k = m := by omega
    clear hk
    cases s
    · go_enter Tryz.func17, Tryz.ntmps17
      go_wp2_with (first | (go_at_call 43; (with_reducible refine (NT.out _ GA).mono ?_); rintro r w1 ⟨b1, c1, d1, rfl, hc1, L1, F1, g1⟩; have x0 := keepG g1 X2.1; have x1 := keepG g1 X2.2; have hb6 := keepO g1 HO; obtain ⟨k0, k1, k2, k3⟩ := Out2.of hb6))
      have hQ := F1.out.ne hb6 (by decide)
      have hW : Hid (Wh w1 false b1 c1 d1 (iv false v)) := wh_iv L1.out (by omega) (fun _ => rfl)
      have hA : Hid ((iv false v).natAbs < 18446744073709551616 ^ k) := by show _ < _; rw [iv_abs]; exact LT.out
      refine bodyPost_ret (v := .agg #[.bool false, .slice b1 c1 d1]) ?_ rfl ⟨false, b1, c1, d1, iv false v, rfl, (hW.out.far hQ _).far hQ _, (F1.out.far hQ _).far hQ _, hA.out, ((GA.trans g1).setCell (p := ⟨w.heap.size + 1, 0, none⟩) (by show _ ≤ w.heap.size + 1; omega) _).setCell (p := ⟨w.heap.size + 1, 1, none⟩) (by show _ ≤ w.heap.size + 1; omega) _⟩
      simp [results, Tryz.results17, go_sem, k0, k1] <;> omega
    · by_cases hv : v = 0
      · go_enter Tryz.func17, Tryz.ntmps17
        go_wp2_with (first | (go_at_call 43; (with_reducible refine (NT.out _ GA).mono ?_); rintro r w1 ⟨b1, c1, d1, rfl, hc1, L1, F1, g1⟩; have x0 := keepG g1 X2.1; have x1 := keepG g1 X2.2; have hb6 := keepO g1 HO; obtain ⟨k0, k1, k2, k3⟩ := Out2.of hb6; have hz1 : ¬ 0 < (c1 : Int) := (by have := lim_nil L1.out hv; omega)))
        have hQ := F1.out.ne hb6 (by decide)
        have hW : Hid (Wh w1 false b1 c1 d1 (iv false v)) := wh_iv L1.out (by omega) (fun _ => rfl)
        have hA : Hid ((iv false v).natAbs < 18446744073709551616 ^ k) := by show _ < _; rw [iv_abs]; exact LT.out
        refine bodyPost_ret (v := .agg #[.bool false, .slice b1 c1 d1]) ?_ rfl ⟨false, b1, c1, d1, iv false v, rfl, (hW.out.far hQ _).far hQ _, (F1.out.far hQ _).far hQ _, hA.out, ((GA.trans g1).setCell (p := ⟨w.heap.size + 1, 0, none⟩) (by show _ ≤ w.heap.size + 1; omega) _).setCell (p := ⟨w.heap.size + 1, 1, none⟩) (by show _ ≤ w.heap.size + 1; omega) _⟩
        simp [results, Tryz.results17, go_sem, k0, k1] <;> omega
      · go_enter Tryz.func17, Tryz.ntmps17
        go_wp2_with (first | (go_at_call 43; (with_reducible refine (NT.out _ GA).mono ?_); rintro r w1 ⟨b1, c1, d1, rfl, hc1, L1, F1, g1⟩; have x0 := keepG g1 X2.1; have x1 := keepG g1 X2.2; have hb6 := keepO g1 HO; obtain ⟨k0, k1, k2, k3⟩ := Out2.of hb6; have hz1 : 0 < (c1 : Int) := (by have := lim_some L1.out hv; omega)))
        have hQ := F1.out.ne hb6 (by decide)
        have hW : Hid (Wh w1 true b1 c1 d1 (iv true v)) := wh_iv L1.out (by omega) (fun h => absurd h hv)
        have hA : Hid ((iv true v).natAbs < 18446744073709551616 ^ k) := by show _ < _; rw [iv_abs]; exact LT.out
        refine bodyPost_ret (v := .agg #[.bool true, .slice b1 c1 d1]) ?_ rfl ⟨true, b1, c1, d1, iv true v, rfl, (hW.out.far hQ _).far hQ _, (F1.out.far hQ _).far hQ _, hA.out, ((GA.trans g1).setCell (p := ⟨w.heap.size + 1, 0, none⟩) (by show _ ≤ w.heap.size + 1; omega) _).setCell (p := ⟨w.heap.size + 1, 1, none⟩) (by show _ ≤ w.heap.size + 1; omega) _⟩
        simp [results, Tryz.results17, go_sem, k0, k1] <;> omega
  · obtain rfl : k = n := by omega
    clear hk
    cases s
    · go_enter Tryz.func17, Tryz.ntmps17
      go_wp2_with (first | (go_at_call 43; (with_reducible refine (NT.out _ GA).mono ?_); rintro r w1 ⟨b1, c1, d1, rfl, hc1, L1, F1, g1⟩; have x0 := keepG g1 X2.1; have x1 := keepG g1 X2.2; have hb6 := keepO g1 HO; obtain ⟨k0, k1, k2, k3⟩ := Out2.of hb6))
      have hQ := F1.out.ne hb6 (by decide)
      have hW : Hid (Wh w1 false b1 c1 d1 (iv false v)) := wh_iv L1.out (by omega) (fun _ => rfl)
      have hA : Hid ((iv false v).natAbs < 18446744073709551616 ^ m) := by show _ < _; rw [iv_abs]; exact LT.out
      refine bodyPost_ret (v := .agg #[.bool false, .slice b1 c1 d1]) ?_ rfl ⟨false, b1, c1, d1, iv false v, rfl, (hW.out.far hQ _).far hQ _, (F1.out.far hQ _).far hQ _, hA.out, ((GA.trans g1).setCell (p := ⟨w.heap.size + 1, 0, none⟩) (by show _ ≤ w.heap.size + 1; omega) _).setCell (p := ⟨w.heap.size + 1, 1, none⟩) (by show _ ≤ w.heap.size + 1; omega) _⟩
      simp [results, Tryz.results17, go_sem, k0, k1] <;> omega
    · by_cases hv : v = 0
      · go_enter Tryz.func17, Tryz.ntmps17
        go_wp2_with (first | (go_at_call 43; (with_reducible refine (NT.out _ GA).mono ?_); rintro r w1 ⟨b1, c1, d1, rfl, hc1, L1, F1, g1⟩; have x0 := keepG g1 X2.1; have x1 := keepG g1 X2.2; have hb6 := keepO g1 HO; obtain ⟨k0, k1, k2, k3⟩ := Out2.of hb6; have hz1 : ¬ 0 < (c1 : Int) := (by have := lim_nil L1.out hv; omega)))
        have hQ := F1.out.ne hb6 (by decide)
        have hW : Hid (Wh w1 false b1 c1 d1 (iv false v)) := wh_iv L1.out (by omega) (fun _ => rfl)
        have hA : Hid ((iv false v).natAbs < 18446744073709551616 ^ m) := by show _ < _; rw [iv_abs]; exact LT.out
        refine bodyPost_ret (v := .agg #[.bool false, .slice b1 c1 d1]) ?_ rfl ⟨false, b1, c1, d1, iv false v, rfl, (hW.out.far hQ _).far hQ _, (F1.out.far hQ _).far hQ _, hA.out, ((GA.trans g1).setCell (p := ⟨w.heap.size + 1, 0, none⟩) (by show _ ≤ w.heap.size + 1; omega) _).setCell (p := ⟨w.heap.size + 1, 1, none⟩) (by show _ ≤ w.heap.size + 1; omega) _⟩
        simp [results, Tryz.results17, go_sem, k0, k1] <;> omega
      · go_enter Tryz.func17, Tryz.ntmps17
        go_wp2_with (first | (go_at_call 43; (with_reducible refine (NT.out _ GA).mono ?_); rintro r w1 ⟨b1, c1, d1, rfl, hc1, L1, F1, g1⟩; have x0 := keepG g1 X2.1; have x1 := keepG g1 X2.2; have hb6 := keepO g1 HO; obtain ⟨k0, k1, k2, k3⟩ := Out2.of hb6; have hz1 : 0 < (c1 : Int) := (by have := lim_some L1.out hv; omega)))
        have hQ := F1.out.ne hb6 (by decide)
        have hW : Hid (Wh w1 true b1 c1 d1 (iv true v)) := wh_iv L1.out (by omega) (fun h => absurd h hv)
        have hA : Hid ((iv true v).natAbs < 18446744073709551616 ^ m) := by show _ < _; rw [iv_abs]; exact LT.out
        refine bodyPost_ret (v := .agg #[.bool true, .slice b1 c1 d1]) ?_ rfl ⟨true, b1, c1, d1, iv true v, rfl, (hW.out.far hQ _).far hQ _, (F1.out.far hQ _).far hQ _, hA.out, ((GA.trans g1).setCell (p := ⟨w.heap.size + 1, 0, none⟩) (by show _ ≤ w.heap.size + 1; omega) _).setCell (p := ⟨w.heap.size + 1, 1, none⟩) (by show _ ≤ w.heap.size + 1; omega) _⟩
        simp [results, Tryz.results17, go_sem, k0, k1] <;> omega
end Go.Proofs.YtapnglidnblmcaaGreat
namespace Go.Proofs.YtapnglidnblmcaaGreat
open Go.RowKit
set_option linter.unusedVariables false

/-! where it fits -/
theorem newBx (w : World) (a : Bool) (b : Option Addr) (c d : Nat) : (w.alloc (.cells #[.bool a, .slice b c d] 24)).cell? ⟨w.heap.size, 0, none⟩ = some (.bool a) ∧ (w.alloc (.cells #[.bool a, .slice b c d] 24)).cell? ⟨w.heap.size, 1, none⟩ = some (.slice b c d) := bx2 (blk1 w _)
/-- a box that holds a right whole number of that worth -/
structure Bw (w : World) (p : Nat) (s : Bool) (ad : Option Addr) (n cap : Nat) (X : Int) : Prop where
  c0 : w.cell? ⟨p, 0, none⟩ = some (.bool s)
  c1 : w.cell? ⟨p, 1, none⟩ = some (.slice ad n cap)
  v : Wh w s ad n cap X
theorem Bw.gr {w w' : World} {p : Nat} {s : Bool} {ad : Option Addr} {n cap : Nat} {X : Int} (h : Bw w p s ad n cap X) (g : Gr w w') : Bw w' p s ad n cap X := ⟨keepG g h.c0, keepG g h.c1, h.v.gr g⟩
theorem Bw.new {w : World} {s : Bool} {ad : Option Addr} {n cap : Nat} {X : Int} (h : Wh w s ad n cap X) : Bw (w.alloc (.cells #[.bool s, .slice ad n cap] 24)) w.heap.size s ad n cap X :=
  ⟨(newBx w s ad n cap).1, (newBx w s ad n cap).2, h.gr ((Gr.refl w).alloc _)⟩
end Go.Proofs.YtapnglidnblmcaaGreat
