import Derived.Test.YtaiflkpanankcaaDoorD6
import Derived.Test.YtaiflkpanankcaaDoorFB
namespace Go.Proofs.YtaiflkpanankcaaDoor.Fl
open Go.RowKit
open Ieee
set_option linter.unusedVariables false

theorem sub_run (w : World) (x y r : Nat) (h : double.sub x y = some r) : (binOp .sub 41 (.float .f64 x) (.float .f64 y)).run Tryd.prog w = .ok (.float .f64 r) w :=
  run_float_arith (P := Tryd.prog) w .sub 41 .f64 x y r h
theorem nan_chosen (s k : Nat) (hk : k < 4503599627370495) (hs : s < 2) : nanB (s * 2 ^ 63 + 0x7ff0000000000000 + 1 + k) = true := by
  have e : s * 2 ^ 63 + 0x7ff0000000000000 + 1 + k = W (s == 1) (0x7ff0000000000000 + 1 + k) := by
    have : s = 0 ∨ s = 1 := by omega
    rcases this with rfl | rfl
    · show 0 * 2 ^ 63 + 0x7ff0000000000000 + 1 + k = 0x7ff0000000000000 + 1 + k
      omega
    · show 1 * 2 ^ 63 + 0x7ff0000000000000 + 1 + k = 9223372036854775808 + (0x7ff0000000000000 + 1 + k)
      omega
  rw [e, nanB_W _ _ (by omega)]
  exact decide_eq_true (by omega)
theorem run_float_nan (op : BinOp) (hop : op = .add ∨ op = .sub ∨ op = .mul ∨ op = .quo) (t : TypeId) (x y : Nat) (w : World) (h : floatBits op .f64 x y = none) :
    ∃ r, (binOp op t (.float .f64 x) (.float .f64 y)).run Tryd.prog w = .ok (.float .f64 r) w.drew ∧ nanB r = true := by
  refine ⟨Question.cut (.nanBits .f64 x y) (w.tape w.drawn (.nanBits .f64 x y)), ?_, ?_⟩
  · rcases hop with rfl | rfl | rfl | rfl <;> (unfold floatBits at h; simp only at h; simp [binOp, Op.floatArith, h])
    all_goals exact fun hf => Bool.noConfusion (show false = true from hf)
  · exact nan_chosen _ _ (by omega) (by omega)
theorem nan_order (r y : Nat) (h : nanB r = true) : (FloatKind.f64.format.order r y == some .eq) = false := by
  unfold nanB at h
  rw [f64_format] at *
  unfold Format.order at *
  cases hr : double.read r with
  | nan n f => rfl
  | infinity s => rw [hr] at h; simp [Datum.order] at h
  | number s m i => rw [hr] at h; simp [Datum.order] at h
theorem sub_nan (s : Bool) (r : Nat) (x : Nat) (h : r < 9223372036854775808) (hn : 9218868437227405312 < r) : double.sub (W s r) x = none := by
  unfold Format.sub
  rw [read_nanW s r h hn]
  rfl
theorem toU_W (r : Nat) (hr : r < 9218868437227405312) (hs : M r / U < 18446744073709551616) :
    floatToIntVal .f64 (W false r) .u64 = some ((M r / U : Nat) : Int) := by
  unfold floatToIntVal
  have h1 : FloatKind.f64.decode (W false r) = .number false (mant r) (-1074 + (ex r : Int)) := read_fin false r hr
  rw [h1]
  unfold Datum.toInt
  rw [zero_W]
  simp only []
  rw [signed_val, Nat.pow_zero, Nat.mul_one]
  have e1 : IntKind.u64.min = 0 := rfl
  have e2 : IntKind.u64.max = 18446744073709551615 := rfl
  generalize M r / U = q at *
  rw [if_pos]
  · simp only [Bool.false_eq_true, if_false]
  · rw [e1, e2]
    simp only [Bool.false_eq_true, if_false]; omega
theorem one_row (w : World) (o1 : Obj) (v : Nat) : Row ((w.alloc o1).alloc (.cells #[.int .u64 (v : Int)] 39)) (some ⟨w.heap.size + 1, 0, none⟩) 1 1 [v] := by
  refine ⟨rfl, Nat.le_refl _, by omega, (fun h => by cases h), fun _ => ⟨w.heap.size + 1, 0, rfl, by simp, fun j hj => ?_⟩⟩
  obtain rfl : j = 0 := by omega
  have := second_block w o1 (.cells #[.int .u64 (v : Int)] 39)
  simp only [World.cell?, this, Nat.zero_add]
  rfl
theorem first_block (w : World) (o1 : Obj) : (w.alloc o1).heap[w.heap.size]? = some o1 := by show (w.heap.push _)[w.heap.size]? = _; simp
/-- settle, of one limb -/
theorem settle1 (s : Bool) (v : Nat) (e : Int) (w : World) (o1 : Obj) (hv : v < 18446744073709551616) (hT : TabAt 1 Lib.deBruijn64tab w) (e1 : -1000000000000 ≤ e) (e2 : e ≤ 1000000000000) :
    Hid (Calls Tryd.prog 35 #[.agg #[.bool s, .slice (some ⟨w.heap.size + 1, 0, none⟩) 1 1, .int .i64 e]] ((w.alloc o1).alloc (.cells #[.int .u64 (v : Int)] 39)) fun r w' => ∃ a b c d f' g', r = .returned (.tuple #[.agg #[.bool a, .slice b c d, .int .i64 f'], .int .i64 g']) ∧ Hid (Settled w' r s v e) ∧ Gr ((w.alloc o1).alloc (.cells #[.int .u64 (v : Int)] 39)) w') := by
  have := settle35 s (some ⟨w.heap.size + 1, 0, none⟩) 1 1 v e [v] _ (one_row w o1 v) (by simpa using hv) (by simp [nv]) (by omega) (tab_gr hT (gr2 _ _)) e1 e2
  refine Calls.mono this ?_
  rintro r w' ⟨h1, h2⟩
  obtain ⟨a, b, c, d, f, g', hr⟩ := h1.form
  exact ⟨a, b, c, d, f, g', hr, h1, h2⟩
/-- Of, of what is no number -/
theorem of4n (x : Nat) (w : World) (h : (nanB x || pinfB (absN x)) = true) :
    Calls Tryd.prog 21 #[.float .f64 x] w fun r w' => r = .returned (.tuple #[zeroD, .int .i64 5]) ∧ Gr w w' := by
  obtain ⟨t0, t1, t2, u0, u1, u2⟩ := Out3.of (first_block w (.cells #[.bool false, .slice none 0 0, .int .i64 0] 24))
  cases h1 : nanB x
  · rw [h1, Bool.false_or] at h
    go_enter Tryd.func21, Tryd.ntmps21
    go_wp2_with (first | (go_at_call 43; refine (nan11 _ _).mono ?_; rintro e w' ⟨rfl, rfl⟩) | (go_at_call 44; refine (inf12z _ _).mono ?_; rintro e w' ⟨rfl, rfl⟩))
    refine bodyPost_ret (v := .tuple #[zeroD, .int .i64 5]) ?_ rfl ⟨rfl, (Gr.refl w).alloc _⟩
    simp [results, Tryd.results21, go_sem, zeroD]
  · clear h
    go_enter Tryd.func21, Tryd.ntmps21
    go_wp2_with (first | (go_at_call 43; refine (nan11 _ _).mono ?_; rintro e w' ⟨rfl, rfl⟩) | (go_at_call 44; refine (inf12z _ _).mono ?_; rintro e w' ⟨rfl, rfl⟩))
    refine bodyPost_ret (v := .tuple #[zeroD, .int .i64 5]) ?_ rfl ⟨rfl, (Gr.refl w).alloc _⟩
    simp [results, Tryd.results21, go_sem, zeroD]
set_option maxHeartbeats 1600000 in
/-- Of, of a number -/
theorem of4 (x pf z v : Nat) (sg : Bool) (pw : Int) (w : World) (h1 : nanB x = false) (h2 : pinfB (absN x) = false)
    (HF : Hid (∀ w, Calls Tryd.prog 45 #[.float .f64 x] w fun e w' => e = .returned (.tuple #[.float .f64 pf, .int .i64 pw]) ∧ w' = w))
    (HL : Hid (∀ w, Calls Tryd.prog 46 #[.float .f64 (absN pf), .int .i64 53] w fun e w' => e = .returned (.float .f64 z) ∧ w' = w))
    (hc : ∀ w, (convert 41 39 (.float .f64 z)).run Tryd.prog w = .ok (.int .u64 (v : Int)) w) (hs : (FloatKind.f64.format.order x 0 == some .lt) = sg)
    (p1 : -5000 ≤ pw) (p2 : pw ≤ 5000) (hv : v < 18446744073709551616) (hT : TabAt 1 Lib.deBruijn64tab w) :
    Calls Tryd.prog 21 #[.float .f64 x] w fun r w' => Settled w' r sg v (pw - 53) ∧ Gr w w' := by
  have HS := settle1 sg v (pw - 53) w (.cells #[.bool false, .slice none 0 0, .int .i64 0] 24) hv hT (by omega) (by omega)
  obtain ⟨t0, t1, t2, u0, u1, u2⟩ := Out3.of (first_block w (.cells #[.bool false, .slice none 0 0, .int .i64 0] 24))
  have kb0 : Hid _ := first_block w (.cells #[.bool false, .slice none 0 0, .int .i64 0] 24)
  clear hT
  go_enter Tryd.func21, Tryd.ntmps21
  go_wp2_with (first | (go_at_call 43; refine (nan11 _ _).mono ?_; rintro e w' ⟨rfl, rfl⟩) | (go_at_call 44; refine (inf12z _ _).mono ?_; rintro e w' ⟨rfl, rfl⟩) | (go_at_call 45; refine (HF.out _).mono ?_; rintro e w' ⟨rfl, rfl⟩) | (go_at_call 47; refine (abs16 _ _).mono ?_; rintro e w' ⟨rfl, rfl⟩) | (go_at_call 46; refine (HL.out _).mono ?_; rintro e w' ⟨rfl, rfl⟩) | (go_at_call 35; (with_reducible refine HS.out.mono ?_); rintro r w2 ⟨za, zb, zc, zd, zf, zg, rfl, hS, g2⟩; have G2 := (((Gr.refl w).alloc (.cells #[.bool false, .slice none 0 0, .int .i64 0] 24)).alloc (.cells #[.int .u64 (v : Int)] 39)).trans g2; have kb2 := g2.keepH (((Gr.refl _).alloc (.cells #[.int .u64 (v : Int)] 39)).keepH kb0.out); clear t0 t1 t2 u0 u1 u2; obtain ⟨t0, t1, t2, u0, u1, u2⟩ := Out3.of kb2))
  refine bodyPost_ret (v := .tuple #[.agg #[.bool za, .slice zb zc zd, .int .i64 zf], .int .i64 zg]) ?_ rfl ⟨hS.out.set3 kb2 _ _ _, ((G2.setCell (p := ⟨w.heap.size, 0, none⟩) (Nat.le_refl _) _).setCell (p := ⟨w.heap.size, 1, none⟩) (Nat.le_refl _) _).setCell (p := ⟨w.heap.size, 2, none⟩) (Nat.le_refl _) _⟩
  simp [results, Tryd.results21, go_sem, t0, t1, t2]
end Go.Proofs.YtaiflkpanankcaaDoor.Fl
