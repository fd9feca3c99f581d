import Derived.Test.YtamjpojnonaecaaGreatDoorM08
import Derived.Test.YtamjpojnonaecaaGreatDoorM02
import Derived.Test.YtamjpojnonaecaaGreatDoorM07
import Derived.Test.YtamjpojnonaecaaGreatDoorM03
import Derived.Test.YtamjpojnonaecaaGreatDoorRows
import Derived.WalkKit
import Derived.WalkLawsBesides
import Derived.WalkSpells
import Derived.Laws.Externs
import Derived.Deep.Draws
namespace Go.Proofs.YtamjpojnonaecaaGreatDoor
open Go.RowKit
set_option linter.unusedVariables false

theorem Settled.form {w : World} {r : Ending} {s : Bool} {x : Nat} {e : Int} (h : Settled w r s x e) : ∃ a b c d f g, r = .returned (.tuple #[.agg #[.bool a, .slice b c d, .int .i64 f], .int .i64 g]) := by
  unfold Settled at h
  rcases h with ⟨_, rfl⟩ | ⟨t, q, ad, n, cap, _, _, rfl, _⟩ | ⟨t, q, _, _, rfl⟩
  · exact ⟨_, _, _, _, _, _, rfl⟩
  · exact ⟨_, _, _, _, _, _, rfl⟩
  · exact ⟨_, _, _, _, _, _, rfl⟩
theorem Settled.set3 {w : World} {r : Ending} {s : Bool} {x : Nat} {e : Int} (h : Settled w r s x e) {B2 : Nat} {p : Bool} {s0 : Option Addr} {l0 c0 : Nat} {i0 : Int} {T : TypeId} {fr : Nat × Nat} (hb : w.heap[B2]? = some (.cells #[.bool p, .slice s0 l0 c0, .int .i64 i0] T fr)) (v0 v1 v2 : Value) :
    Settled (((w.setCell ⟨B2, 0, none⟩ v0).setCell ⟨B2, 1, none⟩ v1).setCell ⟨B2, 2, none⟩ v2) r s x e := by
  unfold Settled at h ⊢
  rcases h with h | ⟨t, q, ad, n, cap, h1, h2, h3, h4, h5⟩ | h
  · exact Or.inl h
  · exact Or.inr (Or.inl ⟨t, q, ad, n, cap, h1, h2, h3, h4.set3 (h4.apart hb) _ _ _, h5⟩)
  · exact Or.inr (Or.inr h)
theorem SettledN.form {B : Nat} {w : World} {r : Ending} {s : Bool} {x : Nat} {e : Int} (h : SettledN B w r s x e) : ∃ a b c d f g, r = .returned (.tuple #[.agg #[.bool a, .slice b c d, .int .i64 f], .int .i64 g]) := h.told.form
theorem SettledN.set3 {B : Nat} {w : World} {r : Ending} {s : Bool} {x : Nat} {e : Int} (h : SettledN B w r s x e) {B2 : Nat} {p : Bool} {s0 : Option Addr} {l0 c0 : Nat} {i0 : Int} {T : TypeId} {fr : Nat × Nat} (hb : w.heap[B2]? = some (.cells #[.bool p, .slice s0 l0 c0, .int .i64 i0] T fr)) (v0 v1 v2 : Value) (hT : T ≠ 66 := by decide) :
    SettledN B (((w.setCell ⟨B2, 0, none⟩ v0).setCell ⟨B2, 1, none⟩ v1).setCell ⟨B2, 2, none⟩ v2) r s x e := ⟨h.told.set3 hb v0 v1 v2, h.new.set3 hb v0 v1 v2 hT⟩
/-- the answer's block behind two new blocks, and what is kept of it -/
theorem second_block (w : World) (o1 o2 : Obj) : ((w.alloc o1).alloc o2).heap[w.heap.size + 1]? = some o2 := by
  show ((w.heap.push _).push _)[w.heap.size + 1]? = _
  simp only [Array.getElem?_push, Array.size_push]
  rw [if_pos trivial]
structure Out3 (w : World) (B : Nat) : Prop where
  c0 : w.cell? ⟨B, 0, none⟩ = some (.bool false)
  c1 : w.cell? ⟨B, 1, none⟩ = some (.slice none 0 0)
  c2 : w.cell? ⟨B, 2, none⟩ = some (.int .i64 0)
  f0 : w.frozen? ⟨B, 0, none⟩ = false
  f1 : w.frozen? ⟨B, 1, none⟩ = false
  f2 : w.frozen? ⟨B, 2, none⟩ = false
theorem Out3.of {w : World} {B : Nat} (h : w.heap[B]? = some (.cells #[.bool false, .slice none 0 0, .int .i64 0] 122)) : Out3 w B :=
  ⟨by simp [World.cell?, h], by simp [World.cell?, h], by simp [World.cell?, h], by simp [World.frozen?, h], by simp [World.frozen?, h], by simp [World.frozen?, h]⟩
theorem Gr.keepH {w w' : World} (g : Gr w w') {k : Nat} {o : Obj} (h : w.heap[k]? = some o) : w'.heap[k]? = some o := (g.block k (lt_of_heap h)).trans h

set_option maxHeartbeats 1600000 in
theorem neg14n (s : Bool) (ad : Option Addr) (n cap x : Nat) (e : Int) (xs : List Nat) (w : World) (rx : Row w ad n cap xs) (hx : ∀ x ∈ xs, x < 18446744073709551616) (hv : nv 18446744073709551616 xs = x) (hn : n ≤ 1099511627776) (hT : TabAt 2 Lib.deBruijn64tab w) (e1 : -1000000000000 ≤ e) (e2 : e ≤ 1000000000000) (hR : RightD s xs e) :
    Calls Tryz.prog 127 #[.agg #[.bool s, .slice ad n cap, .int .i64 e]] w fun r w' => SettledN w.heap.size w' r (!s) x e ∧ Gr w w' := by
  have R26 : Hid (∀ w1, Gr w w1 → Calls Tryz.prog 122 #[.agg #[.bool s, .slice ad n cap, .int .i64 e]] w1 fun r w' => r = .returned (.bool true) ∧ Gr w1 w') := fun w1 g => by
    have := right26 s ad n cap e xs w1 (rx.gr g) hx
    rw [rightB_t hR] at this
    exact this
  have S35 : Hid (∀ w1, Gr w w1 → Calls Tryz.prog 136 #[.agg #[.bool (!s), .slice ad n cap, .int .i64 e]] w1 fun r w' => ∃ a b c d f g, r = .returned (.tuple #[.agg #[.bool a, .slice b c d, .int .i64 f], .int .i64 g]) ∧ Hid (SettledN w.heap.size w' r (!s) x e) ∧ Gr w1 w') := fun w1 g => by
    refine (settle35n (!s) ad n cap x e xs w1 (rx.gr g) hx hv hn (tab_gr hT g) e1 e2).mono ?_
    rintro r w' ⟨h1, h2⟩
    obtain ⟨a, b, c, d, f, g', hr⟩ := h1.form
    exact ⟨a, b, c, d, f, g', hr, h1.low g.size, h2⟩
  clear rx hx hv hT hR
  go_enter Tryz.func127, Tryz.ntmps127
  go_wp2_with (first | (go_at_call 122; refine (R26.out _ (((Gr.refl w).alloc _).alloc _)).mono ?_; rintro r w1 ⟨rfl, g1⟩; have k0 : w1.cell? ⟨w.heap.size, 0, none⟩ = some (.bool s) := g1.keep (by simp); have k1 : w1.cell? ⟨w.heap.size, 1, none⟩ = some (.slice ad n cap) := g1.keep (by simp); have k2 : w1.cell? ⟨w.heap.size, 2, none⟩ = some (.int .i64 e) := g1.keep (by simp); have kb : w1.heap[w.heap.size + 1]? = some (.cells #[.bool false, .slice none 0 0, .int .i64 0] 122) := g1.keepH (second_block w _ _)) | (go_at_call 136; refine (S35.out _ ((((Gr.refl w).alloc _).alloc _).trans g1)).mono ?_; rintro r w2 ⟨a, b, c, d, f, g, rfl, hS, g2⟩; have kb2 := g2.keepH kb; obtain ⟨t0, t1, t2, u0, u1, u2⟩ := Out3.of kb2))
  refine bodyPost_ret (v := .tuple #[.agg #[.bool a, .slice b c d, .int .i64 f], .int .i64 g]) ?_ rfl ⟨hS.out.set3 kb2 _ _ _, ?_⟩
  · simp [results, Tryz.results127, go_sem, t0, t1, t2]
  · exact ((((((Gr.refl w).alloc _).alloc _).trans g1).trans g2).setCell (p := ⟨w.heap.size + 1, 0, none⟩) (Nat.le_succ _) _ |>.setCell (p := ⟨w.heap.size + 1, 1, none⟩) (Nat.le_succ _) _ |>.setCell (p := ⟨w.heap.size + 1, 2, none⟩) (Nat.le_succ _) _)
theorem neg14 (s : Bool) (ad : Option Addr) (n cap x : Nat) (e : Int) (xs : List Nat) (w : World) (rx : Row w ad n cap xs) (hx : ∀ x ∈ xs, x < 18446744073709551616) (hv : nv 18446744073709551616 xs = x) (hn : n ≤ 1099511627776) (hT : TabAt 2 Lib.deBruijn64tab w) (e1 : -1000000000000 ≤ e) (e2 : e ≤ 1000000000000) (hR : RightD s xs e) :
    Calls Tryz.prog 127 #[.agg #[.bool s, .slice ad n cap, .int .i64 e]] w fun r w' => Settled w' r (!s) x e ∧ Gr w w' :=
  (neg14n s ad n cap x e xs w rx hx hv hn hT e1 e2 hR).mono (by rintro r w' ⟨h1, h2⟩; exact ⟨h1.told, h2⟩)
end Go.Proofs.YtamjpojnonaecaaGreatDoor
namespace Go.Proofs.YtamjpojnonaecaaGreatDoor.Fl
open Go.RowKit

theorem bits14 (x : Nat) (w : World) : (callFunc 45 #[.float .f64 x]).run Tryz.prog w = .ok (.value (.int .u64 x)) w := by
  kernel_rfl
theorem from13 (x : Int) (w : World) : (callFunc 44 #[.int .u64 x]).run Tryz.prog w = .ok (.value (.float .f64 x.toNat)) w := by
  kernel_rfl
theorem neg_run (x : Nat) (w : World) : (Op.unary .neg (.float .f64 x)).run Tryz.prog w = .ok (.float .f64 (negN x)) w := by
  kernel_rfl
theorem nan11 (x : Nat) (w : World) : Calls Tryz.prog 61 #[.float .f64 x] w fun e w' => e = .returned (.bool (nanB x)) ∧ w' = w := by
  go_enter Tryz.func61, Tryz.ntmps61
  go_wp2
  go_ret
  exact ⟨rfl, rfl⟩
theorem abs16 (x : Nat) (w : World) : Calls Tryz.prog 50 #[.float .f64 x] w fun e w' => e = .returned (.float .f64 (absN x)) ∧ w' = w := by
  have h1 := bits14
  have h2 := from13
  go_enter Tryz.func50, Tryz.ntmps50
  go_wp2
  go_ret
  exact ⟨rfl, rfl⟩
theorem inf12p (x : Nat) (w : World) : Calls Tryz.prog 105 #[.float .f64 x, .int .i64 1] w fun e w' => e = .returned (.bool (pinfB x)) ∧ w' = w := by
  go_enter Tryz.func105, Tryz.ntmps105
  go_wp2
  go_ret
  exact ⟨rfl, rfl⟩
theorem inf12m (x : Nat) (w : World) : Calls Tryz.prog 105 #[.float .f64 x, .int .i64 (-1)] w fun e w' => e = .returned (.bool (pinfB (negN x))) ∧ w' = w := by
  have hneg := neg_run x w
  go_enter Tryz.func105, Tryz.ntmps105
  go_wp2
  go_ret
  exact ⟨rfl, rfl⟩
theorem inf12z (x : Nat) (w : World) : Calls Tryz.prog 105 #[.float .f64 x, .int .i64 0] w fun e w' => e = .returned (.bool (pinfB (absN x))) ∧ w' = w := by
  go_enter Tryz.func105, Tryz.ntmps105
  go_wp2_with (go_at_call 50; refine (abs16 _ _).mono ?_; rintro e w' ⟨rfl, rfl⟩)
  go_ret
  exact ⟨rfl, rfl⟩
/-- neither NaN nor an infinity -/
def finB (x : Nat) : Bool := !pinfB (absN x) && !nanB x
end Go.Proofs.YtamjpojnonaecaaGreatDoor.Fl
namespace Go.Proofs.YtamjpojnonaecaaGreatDoor.Fl
open Go.RowKit
open Ieee
set_option linter.unusedVariables false

theorem B_lt (s t : Bool) (a b : Nat) (ha : a ≤ 9218868437227405312) (hb : b ≤ 9218868437227405312) : (FloatKind.f64.format.order (W s a) (W t b) == some .lt) = decide (val s a < val t b) := by
  rw [f64_format, order_W s t a b ha hb]
  rcases Int.lt_trichotomy (val s a) (val t b) with h | h | h
  · rw [compare_lt h, decide_eq_true h]; rfl
  · rw [compare_eq h, decide_eq_false (by omega)]; rfl
  · rw [compare_gt h, decide_eq_false (by omega)]; rfl
theorem mul_W (s t : Bool) (a b : Nat) (ha : a < 9218868437227405312) (hb : b < 9218868437227405312) :
    double.mul (W s a) (W t b) = some (double.nearest (s ^^ t) (mant a * mant b) (-1074 + (ex a : Int) + (-1074 + (ex b : Int)))) := by
  unfold Format.mul
  rw [read_fin s a ha, read_fin t b hb]
  rfl
theorem mul_mag (a b : Nat) : mant a * mant b * 2 ^ (-1074 + (ex a : Int) + (-1074 + (ex b : Int)) + 1074 + (E74 : Nat)).toNat = M a * M b := by
  have e : (-1074 + (ex a : Int) + (-1074 + (ex b : Int)) + 1074 + (E74 : Nat)).toNat = ex a + ex b := by
    have := E74_eq
    omega
  rw [e]
  unfold M
  rw [Nat.pow_add]
  exact Nat.mul_mul_mul_comm ..
theorem mul_place (a b : Nat) : (0 : Int) ≤ -1074 + (ex a : Int) + (-1074 + (ex b : Int)) + 1074 + (E74 : Nat) := by
  have := E74_eq
  omega
theorem mul_exact (s t : Bool) (a b r : Nat) (ha : a < 9218868437227405312) (hb : b < 9218868437227405312) (hr : r ≤ 9218868437227405312) (h : M a * M b = M r * U) :
    double.mul (W s a) (W t b) = some (W (s ^^ t) r) := by
  rw [mul_W s t a b ha hb]
  refine congrArg some (nearest_exact _ _ _ E74 r (mul_place a b) hr ?_)
  rw [mul_mag]
  exact h
theorem mul_faithful (s t : Bool) (a b : Nat) (ha : a < 9218868437227405312) (hb : b < 9218868437227405312) :
    ∃ r c, M r * U ≤ M a * M b ∧ M a * M b < M (r + 1) * U ∧ (c = r ∨ (c = r + 1 ∧ M a * M b ≠ M r * U)) ∧ double.mul (W s a) (W t b) = some (W (s ^^ t) (min c 9218868437227405312)) := by
  obtain ⟨r, c, h1, h2, h3, h4⟩ := nearest_faithful (s ^^ t) (mant a * mant b) (-1074 + (ex a : Int) + (-1074 + (ex b : Int))) E74 (mul_place a b)
  rw [mul_mag] at h1 h2 h4
  exact ⟨r, c, h1, h2, h4, by rw [mul_W s t a b ha hb, h3]⟩
theorem mul_run (w : World) (x y r : Nat) (h : double.mul x y = some r) : (binOp .mul 27 (.float .f64 x) (.float .f64 y)).run Tryz.prog w = .ok (.float .f64 r) w :=
  run_float_arith (P := Tryz.prog) w .mul 27 .f64 x y r h

/-! BITS -/
theorem W_eq (s : Bool) (r : Nat) : W s r = s.toNat * 2 ^ 63 + r := by
  cases s
  · show r = _; simp
  · show 9223372036854775808 + r = _; simp
theorem bit_exp (s : Bool) (n : Nat) (h : n < 9223372036854775808) : bits BinOp.and IntKind.u64 ((W s n : Nat) / 4503599627370496 : Int) 2047 = ((n / 4503599627370496 : Nat) : Int) := by
  have e : ((W s n : Nat) / 4503599627370496 : Int) = ((W s n / 4503599627370496 : Nat) : Int) := by simp
  have hl := W_lt s n h
  rw [e, show (2047 : Int) = ((2047 : Nat) : Int) from rfl, u64_and_nat _ _ (by omega) (by omega)]
  have h2 := Nat.and_two_pow_sub_one_eq_mod (W s n / 4503599627370496) 11
  rw [show (2047 : Nat) = 2 ^ 11 - 1 from rfl, h2, W_eq]
  congr 1
  cases s <;> simp <;> omega
theorem bit_cut (s : Bool) (n : Nat) (h : n < 9223372036854775808) : bits BinOp.andNot IntKind.u64 (W s n : Nat) 9218868437227405312 = ((W s (n % 4503599627370496) : Nat) : Int) := by
  have hl := W_lt s n h
  rw [show (9218868437227405312 : Int) = ((9218868437227405312 : Nat) : Int) from rfl, u64_andNot_nat _ _ hl (by omega)]
  congr 1
  have e1 : (18446744073709551615 - 9218868437227405312 : Nat) = 2 ^ 63 ||| (2 ^ 52 - 1) := by decide
  rw [e1, Nat.and_or_distrib_left, Nat.and_two_pow_sub_one_eq_mod]
  have e2 : W s n &&& 2 ^ 63 = s.toNat * 2 ^ 63 := by
    apply Nat.eq_of_testBit_eq
    intro i
    rw [Nat.testBit_and, Nat.testBit_two_pow, W_eq]
    by_cases hi : 63 = i
    · subst hi
      rw [decide_eq_true rfl, Bool.and_true]
      cases s
      · simp only [Bool.toNat_false, Nat.zero_mul, Nat.zero_add, Nat.zero_testBit]
        exact Nat.testBit_lt_two_pow h
      · simp only [Bool.toNat_true, Nat.one_mul]
        rw [Nat.testBit_two_pow_add_eq, Nat.testBit_lt_two_pow h, Nat.testBit_two_pow_self]
        rfl
    · rw [decide_eq_false hi, Bool.and_false]
      cases s
      · simp
      · simp only [Bool.toNat_true, Nat.one_mul]
        rw [Nat.testBit_two_pow, decide_eq_false hi]
  have e3 : W s n % 2 ^ 52 = n % 4503599627370496 := by
    rw [W_eq]; cases s <;> simp <;> omega
  rw [e2, e3]
  cases s
  · simp [W]
  · simp only [Bool.toNat_true, Nat.one_mul]
    have h6 := Nat.two_pow_add_eq_or_of_lt (i := 63) (b := n % 4503599627370496) (by omega) 1
    rw [Nat.mul_one] at h6
    rw [← h6]
    rfl
theorem bit_put (s : Bool) (y E : Nat) (hy : y < 4503599627370496) (hE : E < 2048) : bits BinOp.or IntKind.u64 (W s y : Nat) ((E * 4503599627370496 : Nat) : Int) = ((W s (E * 4503599627370496 + y) : Nat) : Int) := by
  have hl := W_lt s y (by omega)
  rw [u64_or_nat _ _ hl (by omega)]
  congr 1
  have e1 : E * 4503599627370496 = E <<< 52 := by rw [Nat.shiftLeft_eq]
  have e2 : W s y = (s.toNat * 2048) <<< 52 ||| y := by
    rw [← Nat.shiftLeft_add_eq_or_of_lt (i := 52) (by omega), Nat.shiftLeft_eq, W_eq]
    cases s <;> simp
  have e3 : s.toNat * 2048 ||| E = s.toNat * 2048 + E := by
    cases s
    · simp
    · simp only [Bool.toNat_true, Nat.one_mul]
      exact (Nat.two_pow_add_eq_or_of_lt (i := 11) (by omega) 1).symm ▸ rfl
  rw [e1, e2, Nat.or_assoc, Nat.or_comm y, ← Nat.or_assoc, ← Nat.shiftLeft_or_distrib, e3, ← Nat.shiftLeft_add_eq_or_of_lt (i := 52) (by omega), Nat.shiftLeft_eq, W_eq, Nat.shiftLeft_eq, Nat.add_mul, Nat.mul_assoc, Nat.add_assoc]
end Go.Proofs.YtamjpojnonaecaaGreatDoor.Fl
namespace Go.Proofs.YtamjpojnonaecaaGreatDoor
open Go.RowKit
open Ieee
set_option linter.unusedVariables false

/-! WHEEL: ROOTS TURNED BY QUARTERS -/
def abW (x : Nat) : Nat := (bits BinOp.xor IntKind.u64 (x : Int) 9223372036854775808).toNat
theorem aboutE (x : Nat) (w : World) : Calls Tryz.prog 49 #[.float .f64 x] w fun r w' => r = .returned (.float .f64 (abW x)) ∧ w' = w := by
  have h1 := Fl.bits14
  have h2 := Fl.from13
  go_enter Tryz.func49, Tryz.ntmps49
  go_wp2
  go_ret
  exact ⟨rfl, rfl⟩
def tW (q : Nat) (p : Nat × Nat) : Nat × Nat := if q = 0 then p else if q = 1 then (abW p.2, p.1) else if q = 2 then (abW p.1, abW p.2) else (p.2, abW p.1)
theorem pturn (q x y : Nat) (w : World) (hq : q ≤ 3) : Calls Tryz.prog 42 #[.complex .f64 x y, .int .i64 (q : Int)] w fun r w' => r = .returned (.complex .f64 (tW q (x, y)).1 (tW q (x, y)).2) ∧ w' = w := by
  rcases (show q = 0 ∨ q = 1 ∨ q = 2 ∨ q = 3 by omega) with rfl | rfl | rfl | rfl
  all_goals
    go_enter Tryz.func42, Tryz.ntmps42
    go_wp2_with (go_at_call 49; (with_reducible refine (aboutE _ _).mono ?_); rintro r w1 ⟨rfl, rfl⟩)
    go_ret
    exact ⟨rfl, rfl⟩
theorem padd (x y x' y' : Nat) (w : World) (h1 : double.add x 0 = some x') (h2 : double.add y 0 = some y') : Calls Tryz.prog 41 #[.complex .f64 x y, .complex .f64 0 0] w fun r w' => r = .returned (.complex .f64 x' y') ∧ w' = w := by
  have a1 : ∀ w, (binOp .add 27 (.float .f64 x) (.float .f64 0)).run Tryz.prog w = .ok (.float .f64 x') w := fun w => run_float_arith (P := Tryz.prog) w .add 27 .f64 x 0 x' h1
  have a2 : ∀ w, (binOp .add 27 (.float .f64 y) (.float .f64 0)).run Tryz.prog w = .ok (.float .f64 y') w := fun w => run_float_arith (P := Tryz.prog) w .add 27 .f64 y 0 y' h2
  clear h1 h2
  go_enter Tryz.func41, Tryz.ntmps41
  go_wp2
  go_ret
  exact ⟨rfl, rfl⟩
theorem turnedE (q x y x' y' : Nat) (w : World) (hq : q ≤ 3) (h1 : double.add (tW q (x, y)).1 0 = some x') (h2 : double.add (tW q (x, y)).2 0 = some y') : Calls Tryz.prog 98 #[.complex .f64 x y, .int .i64 (q : Int)] w fun r w' => r = .returned (.complex .f64 x' y') ∧ w' = w := by
  have PT := hide (fun w => pturn q x y w hq)
  have PA := hide (fun w => padd _ _ x' y' w h1 h2)
  generalize (tW q (x, y)).1 = u at *
  generalize (tW q (x, y)).2 = v at *
  clear h1 h2
  go_enter Tryz.func98, Tryz.ntmps98
  go_wp2_with (first | (go_at_call 42; (with_reducible refine (PT.out _).mono ?_); rintro r w1 ⟨rfl, rfl⟩) | (go_at_call 41; (with_reducible refine (PA.out _).mono ?_); rintro r w1 ⟨rfl, rfl⟩))
  go_ret
  exact ⟨rfl, rfl⟩
theorem acrossE (x y : Nat) (w : World) : Calls Tryz.prog 104 #[.complex .f64 x y] w fun r w' => r = .returned (.complex .f64 y x) ∧ w' = w := by
  go_enter Tryz.func104, Tryz.ntmps104
  go_wp2
  go_ret
  exact ⟨rfl, rfl⟩
@[go_sem] theorem run_store_cpx (P : Program) (w : World) (a : Addr) (m : Mode) (x y : Nat) : (store a (.complex .f64 x y) m).run P w = stored P w a (.complex .f64 x y) m := run_store P w a _ m rfl
/-- rows of complex numbers -/
def cz (zs : List (Nat × Nat)) : List Value := zs.map fun p => Value.complex .f64 p.1 p.2
theorem cz_length (zs : List (Nat × Nat)) : (cz zs).length = zs.length := by simp [cz]
theorem cz_get {zs : List (Nat × Nat)} {j : Nat} (h : j < zs.length) : (cz zs)[j]? = some (.complex .f64 (zs.getD j (0, 0)).1 (zs.getD j (0, 0)).2) := by
  unfold cz
  rw [List.getElem?_map, List.getElem?_eq_getElem h, List.getD_eq_getElem?_getD, List.getElem?_eq_getElem h]
  rfl
theorem infoC : (Tryz.prog.info? 29).map (fun i => (i.zero, i.size, i.bytes)) = some (some (.complex .f64 0 0), 1, 16) := by kernel_rfl
theorem made_c (n : Nat) : (madeCells (Value.complex .f64 0 0).cells (n * 1)).toList = cz (List.replicate n (0, 0)) := by
  rw [Nat.mul_one]
  refine List.ext_getElem (by rw [Array.length_toList, size_madeCells, cz_length, List.length_replicate]) fun i h1 h2 => ?_
  simp [madeCells, cz, Value.cells, Nat.mod_one]
/-- A NEW ROW OF NOUGHTS -/
theorem wpList_madeC {w : World} {ops : Array Oper} {rest : List Oper} {o : Oper} {a : Act} {Q : Exit → Act → World → Prop} (hgd : o.guard = none) (l c : Operand)
    (hop : o.op = Op.makeSlice 22 l c) (n : Nat) (L : Int) (hl : a.eval l = .int .i64 L) (hc : a.eval c = .int .i64 L) (hL : L = (n : Int)) (hn : n ≤ 4398046511104)
    (hK : ∀ w', w'.ownsRow w.heap.size 29 1 (.slice (some ⟨w.heap.size, 0, none⟩) n n) n (cz (List.replicate n (0, 0))) → Gr w w' → wpList Tryz.prog ops Q rest (a.put o.dst (.slice (some ⟨w.heap.size, 0, none⟩) n n)) w') :
    wpList Tryz.prog ops Q (o :: rest) a w := by
  obtain ⟨i0, hi, hz0, hz1, hz2⟩ := info_parts infoC
  refine wpList_make_full w hgd l c 22 hop w.heap.size 29 i0 (.complex .f64 0 0) 1 Tryz.underlying22 hi hz0 hz1 .i64 .i64 L L n hl hc hL hL (by rw [hz2]; omega) (by unfold maxLen; omega) (Nat.le_refl _) ?_
  intro w' hown hgr
  rw [made_c] at hown
  exact hK w' hown ((Gr.refl w).grown hgr (fun k h => by cases h))
theorem ownsC_cell {w : World} {base : Nat} {g N : Nat} {zs : List (Nat × Nat)} (h : w.ownsRow base 29 1 (.slice (some ⟨g, 0, none⟩) N N) N (cz zs)) (j : Nat) (hj : j < N) : w.cell? ⟨g, j, none⟩ = some (.complex .f64 (zs.getD j (0, 0)).1 (zs.getD j (0, 0)).2) := by
  have hl : zs.length = N := by have := h.1; rw [cz_length] at this; omega
  rw [h.cellAt j (by omega), cz_get (by omega)]
theorem ownsC_set {w : World} {base : Nat} {g N : Nat} {zs : List (Nat × Nat)} (h : w.ownsRow base 29 1 (.slice (some ⟨g, 0, none⟩) N N) N (cz zs)) (j x y : Nat) : (w.setCell ⟨g, j, none⟩ (.complex .f64 x y)).ownsRow base 29 1 (.slice (some ⟨g, 0, none⟩) N N) N (cz (zs.set j (x, y))) := by
  have := (h.stored j (.complex .f64 x y)).1
  rw [show cz (zs.set j (x, y)) = (cz zs).set j (.complex .f64 x y) by simp [cz]]
  exact this
end Go.Proofs.YtamjpojnonaecaaGreatDoor
namespace Go.Proofs.YtamjpojnonaecaaGreatDoor.Fl
open Go.RowKit
open Ieee
set_option linter.unusedVariables false

/-! WHAT THE PROGRAM's OPERATIONS ON PARTS TELL, ANY WORDS -/
def nOf (x y : Nat) (w : World) : Nat := Question.cut (.nanBits .f64 x y) (w.tape w.drawn (.nanBits .f64 x y))
theorem nOf_form (x y : Nat) (w : World) : ∃ s k, nOf x y w = s * 2 ^ 63 + 0x7ff0000000000000 + 1 + k ∧ k < 4503599627370495 ∧ s < 2 := ⟨_, _, rfl, by omega, by omega⟩
theorem nOf_nan (x y : Nat) (w : World) : nanB (nOf x y w) = true ∧ nOf x y w < 18446744073709551616 := by
  obtain ⟨s, k, h, hk, hs⟩ := nOf_form x y w
  rw [h]
  have e : s * 2 ^ 63 + 0x7ff0000000000000 + 1 + k = W (s == 1) (0x7ff0000000000000 + 1 + k) := by
    have : s = 0 ∨ s = 1 := by omega
    rcases this with rfl | rfl
    · show 0 * 2 ^ 63 + 0x7ff0000000000000 + 1 + k = 0x7ff0000000000000 + 1 + k
      omega
    · show 1 * 2 ^ 63 + 0x7ff0000000000000 + 1 + k = 9223372036854775808 + (0x7ff0000000000000 + 1 + k)
      omega
  rw [e]
  exact ⟨by rw [nanB_W _ _ (by omega)]; exact decide_eq_true (by omega), W_lt _ _ (by omega)⟩
def frr (op : BinOp) (x y : Nat) (w : World) : Nat := (floatBits op .f64 x y).getD (nOf x y w)
def fnn (op : BinOp) (x y : Nat) : Nat := if (floatBits op .f64 x y).isSome then 0 else 1
theorem flt_run (op : BinOp) (hop : op = .add ∨ op = .sub ∨ op = .mul ∨ op = .quo) (t : TypeId) (x y : Nat) (w : World) :
    (binOp op t (.float .f64 x) (.float .f64 y)).run Tryz.prog w = .ok (.float .f64 (frr op x y w)) (w.drewN (fnn op x y)) := by
  unfold frr fnn
  cases h : floatBits op .f64 x y with
  | some r => exact run_float_arith (P := Tryz.prog) w op t .f64 x y r h
  | none =>
    show _ = Result.ok (Value.float .f64 (nOf x y w)) (w.drewN 1)
    unfold nOf
    rcases hop with rfl | rfl | rfl | rfl <;> (unfold floatBits at h; simp only at h; simp [binOp, Op.floatArith, h])
    all_goals first | exact fun hf => Bool.noConfusion (show false = true from hf) | (refine ⟨?_, ?_⟩ <;> first | rfl | exact fun hf => Bool.noConfusion (show false = true from hf)) | rfl
theorem frr_add (x y : Nat) (w : World) : cn (frr .add x y w) = fA x y ∧ frr .add x y w < 18446744073709551616 := by
  have k := nOf_nan x y w
  unfold frr
  cases h : floatBits .add .f64 x y with
  | some r =>
    have h' : double.add x y = some r := h
    have e : fA x y = r := by unfold fA; rw [h']; rfl
    exact ⟨by show cn r = _; rw [← e]; exact cn_fA x y, by show r < _; rw [← e]; exact fA_lt x y⟩
  | none =>
    have h' : double.add x y = none := h
    exact ⟨by show cn (nOf x y w) = _; rw [cn_nan k.1]; unfold fA; rw [h']; rfl, k.2⟩
theorem frr_sub (x y : Nat) (w : World) : cn (frr .sub x y w) = fS x y ∧ frr .sub x y w < 18446744073709551616 := by
  have k := nOf_nan x y w
  unfold frr
  cases h : floatBits .sub .f64 x y with
  | some r =>
    have h' : double.sub x y = some r := h
    have e : fS x y = r := by unfold fS; rw [h']; rfl
    exact ⟨by show cn r = _; rw [← e]; exact cn_fS x y, by show r < _; rw [← e]; exact fS_lt x y⟩
  | none =>
    have h' : double.sub x y = none := h
    exact ⟨by show cn (nOf x y w) = _; rw [cn_nan k.1]; unfold fS; rw [h']; rfl, k.2⟩
theorem frr_mul (x y : Nat) (w : World) : cn (frr .mul x y w) = fP x y ∧ frr .mul x y w < 18446744073709551616 := by
  have k := nOf_nan x y w
  unfold frr
  cases h : floatBits .mul .f64 x y with
  | some r =>
    have h' : double.mul x y = some r := h
    have e : fP x y = r := by unfold fP; rw [h']; rfl
    exact ⟨by show cn r = _; rw [← e]; exact cn_fP x y, by show r < _; rw [← e]; exact fP_lt x y⟩
  | none =>
    have h' : double.mul x y = none := h
    exact ⟨by show cn (nOf x y w) = _; rw [cn_nan k.1]; unfold fP; rw [h']; rfl, k.2⟩
theorem frr_subs (X Y : Nat) (w : World) (hX : X < 18446744073709551616) (hY : Y < 18446744073709551616) : cn (frr .sub X Y w) = fS (cn X) (cn Y) := by rw [fS_cn _ _ hX, fS_cn2 _ _ hY]; exact (frr_sub X Y w).1
theorem frr_adds (X Y : Nat) (w : World) (hX : X < 18446744073709551616) (hY : Y < 18446744073709551616) : cn (frr .add X Y w) = fA (cn X) (cn Y) := by rw [fA_cn _ _ hX, fA_cn2 _ _ hY]; exact (frr_add X Y w).1
theorem frr_muls (X Y : Nat) (w : World) (hX : X < 18446744073709551616) (hY : Y < 18446744073709551616) : cn (frr .mul X Y w) = fP (cn X) (cn Y) := by rw [fP_cn _ _ hX, fP_cn2 _ _ hY]; exact (frr_mul X Y w).1
/-- a number with these parts, but for the bits of NaN -/
def IsZ (z : Nat × Nat) (p q : Nat) : Prop := cn p = z.1 ∧ cn q = z.2 ∧ p < 18446744073709551616 ∧ q < 18446744073709551616
theorem mulP (x y u v : Nat) (a b : Nat × Nat) (w : World) (ha : IsZ a x y) (hb : IsZ b u v) :
    Calls Tryz.prog 35 #[.complex .f64 x y, .complex .f64 u v] w fun r w' => ∃ p q n, r = .returned (.complex .f64 p q) ∧ Hid (IsZ (mulZ a b) p q) ∧ w' = w.drewN n := by
  have r1 : ∀ x y w, (binOp .mul 27 (.float .f64 x) (.float .f64 y)).run Tryz.prog w = .ok (.float .f64 (frr .mul x y w)) (w.drewN (fnn .mul x y)) := fun x y w => flt_run .mul (by simp) _ x y w
  have r2 : ∀ x y w, (binOp .sub 27 (.float .f64 x) (.float .f64 y)).run Tryz.prog w = .ok (.float .f64 (frr .sub x y w)) (w.drewN (fnn .sub x y)) := fun x y w => flt_run .sub (by simp) _ x y w
  have r3 : ∀ x y w, (binOp .add 27 (.float .f64 x) (.float .f64 y)).run Tryz.prog w = .ok (.float .f64 (frr .add x y w)) (w.drewN (fnn .add x y)) := fun x y w => flt_run .add (by simp) _ x y w
  have HA := hide ha
  have HB := hide hb
  clear ha hb
  go_enter Tryz.func35, Tryz.ntmps35
  go_wp2
  go_ret
  refine ⟨_, _, _, rfl, ?_, rfl⟩
  obtain ⟨a1, a2, a3, a4⟩ := HA.out
  obtain ⟨b1, b2, b3, b4⟩ := HB.out
  refine ⟨?_, ?_, (frr_sub _ _ _).2, (frr_add _ _ _).2⟩
  · rw [frr_subs _ _ _ (frr_mul _ _ _).2 (frr_mul _ _ _).2, frr_muls _ _ _ a3 b3, frr_muls _ _ _ a4 b4, a1, a2, b1, b2]; rfl
  · rw [frr_adds _ _ _ (frr_mul _ _ _).2 (frr_mul _ _ _).2, frr_muls _ _ _ a3 b4, frr_muls _ _ _ a4 b3, a1, a2, b1, b2]; rfl
theorem addP (x y u v : Nat) (a b : Nat × Nat) (w : World) (ha : IsZ a x y) (hb : IsZ b u v) :
    Calls Tryz.prog 41 #[.complex .f64 x y, .complex .f64 u v] w fun r w' => ∃ p q n, r = .returned (.complex .f64 p q) ∧ Hid (IsZ (addZ a b) p q) ∧ w' = w.drewN n := by
  have r3 : ∀ x y w, (binOp .add 27 (.float .f64 x) (.float .f64 y)).run Tryz.prog w = .ok (.float .f64 (frr .add x y w)) (w.drewN (fnn .add x y)) := fun x y w => flt_run .add (by simp) _ x y w
  have HA := hide ha
  have HB := hide hb
  clear ha hb
  go_enter Tryz.func41, Tryz.ntmps41
  go_wp2
  go_ret
  refine ⟨_, _, _, rfl, ?_, rfl⟩
  obtain ⟨a1, a2, a3, a4⟩ := HA.out
  obtain ⟨b1, b2, b3, b4⟩ := HB.out
  refine ⟨?_, ?_, (frr_add _ _ _).2, (frr_add _ _ _).2⟩
  · rw [frr_adds _ _ _ a3 b3, a1, b1]; rfl
  · rw [frr_adds _ _ _ a4 b4, a2, b2]; rfl
theorem subP (x y u v : Nat) (a b : Nat × Nat) (w : World) (ha : IsZ a x y) (hb : IsZ b u v) :
    Calls Tryz.prog 43 #[.complex .f64 x y, .complex .f64 u v] w fun r w' => ∃ p q n, r = .returned (.complex .f64 p q) ∧ Hid (IsZ (subZ a b) p q) ∧ w' = w.drewN n := by
  have r3 : ∀ x y w, (binOp .sub 27 (.float .f64 x) (.float .f64 y)).run Tryz.prog w = .ok (.float .f64 (frr .sub x y w)) (w.drewN (fnn .sub x y)) := fun x y w => flt_run .sub (by simp) _ x y w
  have HA := hide ha
  have HB := hide hb
  clear ha hb
  go_enter Tryz.func43, Tryz.ntmps43
  go_wp2
  go_ret
  refine ⟨_, _, _, rfl, ?_, rfl⟩
  obtain ⟨a1, a2, a3, a4⟩ := HA.out
  obtain ⟨b1, b2, b3, b4⟩ := HB.out
  refine ⟨?_, ?_, (frr_sub _ _ _).2, (frr_sub _ _ _).2⟩
  · rw [frr_subs _ _ _ a3 b3, a1, b1]; rfl
  · rw [frr_subs _ _ _ a4 b4, a2, b2]; rfl
theorem abW_ng {x : Nat} (h : x < 18446744073709551616) : abW x = ng x := by
  unfold abW
  have h1 := u64_xor_nat x 9223372036854775808 h (by omega)
  rw [show ((9223372036854775808 : Int)) = ((9223372036854775808 : Nat) : Int) from rfl, h1, Int.toNat_natCast]
  obtain ⟨s, r, rfl, hr⟩ := W_split x h
  rw [ng_W s r hr]
  have h2 := xor_top r hr
  cases s
  · show r ^^^ 2 ^ 63 = _
    rw [h2]; rfl
  · show (2 ^ 63 + r) ^^^ 2 ^ 63 = _
    rw [← h2, Nat.xor_assoc, Nat.xor_self, Nat.xor_zero]; rfl
def conjZ (z : Nat × Nat) : Nat × Nat := (z.1, cn (ng z.2))
theorem conjP (x y : Nat) (a : Nat × Nat) (w : World) (ha : IsZ a x y) :
    Calls Tryz.prog 26 #[.complex .f64 x y] w fun r w' => r = .returned (.complex .f64 x (ng y)) ∧ Hid (IsZ (conjZ a) x (ng y)) ∧ w' = w := by
  have HA : Hid (IsZ (conjZ a) x (ng y)) := by
    obtain ⟨a1, a2, a3, a4⟩ := ha
    exact ⟨a1, by show cn (ng y) = cn (ng a.2); rw [← a2, cn_ng a4], a3, ng_lt a4⟩
  have e := abW_ng ha.2.2.2
  have AB : Hid (∀ w, Calls Tryz.prog 49 #[.float .f64 y] w fun r w' => r = .returned (.float .f64 (ng y)) ∧ w' = w) := fun w => by rw [← e]; exact aboutE y w
  clear ha e
  go_enter Tryz.func26, Tryz.ntmps26
  go_wp2_with (go_at_call 49; (with_reducible refine (AB.out _).mono ?_); rintro r w1 ⟨rfl, rfl⟩)
  go_ret
  exact ⟨rfl, HA, rfl⟩
end Go.Proofs.YtamjpojnonaecaaGreatDoor.Fl
