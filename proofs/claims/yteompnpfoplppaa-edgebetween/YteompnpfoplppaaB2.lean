import Derived.Test.YteompnpfoplppaaB1
namespace Go.Proofs.Yteompnpfoplppaa
open Go.RowKit
open Ieee
set_option linter.unusedVariables false

set_option maxHeartbeats 800000 in
theorem floatAny (s : Bool) (r : Nat) (w : World) (hr : r < 9223372036854775808) :
    Calls Try.prog 41 #[.float .f64 (W s r)] w fun res w' => ∃ ad n cap, res = .returned (.agg #[.bool s, .slice ad n cap, .int .i64 ((ex r : Int) - 1074)]) ∧ Lim w' ad n cap 18446744073709551616 (mant r) ∧ Gr w w' := by
  have h1 := bits14
  have hx := bit_exp s r (by omega)
  have hW : ((W s r : Nat) : Int) = (if s then (r : Int) + 9223372036854775808 else (r : Int)) := by
    unfold W; cases s <;> simp <;> omega
  have hm : Hid (((W s r : Nat) : Int) % 4503599627370496 = ((r % 4503599627370496 : Nat) : Int)) := by
    show _ = _
    rw [hW]; cases s <;> simp <;> omega
  have hn : (((W s r : Nat) : Int) / 9223372036854775808 == 1) = s := by
    rw [hW]
    cases s
    · simp; omega
    · simp; omega
  have hlt : W s r < 18446744073709551616 := W_lt s r (by omega)
  clear hW
  by_cases he : r / 4503599627370496 = 0
  · have hmant : r % 4503599627370496 = mant r := by unfold mant; rw [if_pos (by omega)]; omega
    have hexp : (-1074 : Int) = (ex r : Int) - 1074 := by unfold ex; omega
    rw [hmant] at hm
    rw [← hexp]
    rw [he] at hx
    have HN : Hid (∀ w1, Calls Try.prog 62 #[.int .u64 (((W s r : Nat) : Int) % 4503599627370496)] w1 fun e w' => ∃ ad' n' cap', e = .returned (.slice ad' n' cap') ∧ Lim w' ad' n' cap' 18446744073709551616 (mant r) ∧ Gr w1 w') := by
      intro w1
      rw [hm.out]
      exact of62 (mant r) w1 (mant_lt64 r)
    clear hmant hexp hm
    generalize W s r = x at *
    go_enter Try.func41, Try.ntmps41
    go_wp2_with (go_at_call 62; with_reducible refine (HN.out _).mono ?_; rintro r w1 ⟨a3, m3, k3, rfl, hl3, g3⟩; have hb1 := (g3.block w.heap.size (by simp)).trans (heap_alloc_new w _); have hc1 := num_block hb1)
    refine bodyPost_ret (v := .agg #[.bool s, .slice a3 m3 k3, .int .i64 (-1074)]) (by simp [results, Try.results41, go_sem, hc1]) rfl ⟨a3, m3, k3, rfl, hl3.set3 (hl3.apart hb1) _ _ _, set3_gr (((Gr.refl w).alloc _).trans g3) (Nat.le_refl _) _ _ _⟩
  · have hmant : r % 4503599627370496 + 4503599627370496 = mant r := by unfold mant; rw [if_neg (by omega)]; omega
    have hexp : ((r / 4503599627370496 : Nat) : Int) - 1075 = (ex r : Int) - 1074 := by unfold ex; omega
    have hq : r / 4503599627370496 < 2048 := by omega
    rw [← hexp]
    have HN : Hid (∀ w1, Calls Try.prog 62 #[.int .u64 (((W s r : Nat) : Int) % 4503599627370496 + 4503599627370496)] w1 fun e w' => ∃ ad' n' cap', e = .returned (.slice ad' n' cap') ∧ Lim w' ad' n' cap' 18446744073709551616 (mant r) ∧ Gr w1 w') := by
      intro w1
      rw [hm.out, show ((r % 4503599627370496 : Nat) : Int) + 4503599627370496 = ((mant r : Nat) : Int) by omega]
      exact of62 (mant r) w1 (mant_lt64 r)
    generalize hz : r / 4503599627370496 = q at *
    clear hmant hexp hm hz
    generalize W s r = x at *
    go_enter Try.func41, Try.ntmps41
    go_wp2_with (go_at_call 62; with_reducible refine (HN.out _).mono ?_; rintro r w1 ⟨a3, m3, k3, rfl, hl3, g3⟩; have hb1 := (g3.block w.heap.size (by simp)).trans (heap_alloc_new w _); have hc1 := num_block hb1)
    refine bodyPost_ret (v := .agg #[.bool s, .slice a3 m3 k3, .int .i64 ((q : Int) - 1075)]) (by simp [results, Try.results41, go_sem, hc1]) rfl ⟨a3, m3, k3, rfl, hl3.set3 (hl3.apart hb1) _ _ _, set3_gr (((Gr.refl w).alloc _).trans g3) (Nat.le_refl _) _ _ _⟩

theorem did_0 (x y : Nat) (up : Bool) (P : Nat → Prop) (w : World) (H : Hid (∀ w, Calls Try.prog 8 #[.float .f64 x, .float .f64 y, .bool up] w fun e w' => ∃ v, e = .returned (.float .f64 v) ∧ P v ∧ Gr w w')) :
    Calls Try.prog 23 #[.int .i64 0, .float .f64 x, .float .f64 y, .bool up] w fun e w' => ∃ v, e = .returned (.float .f64 v) ∧ P v ∧ Gr w w' := by
  go_enter Try.func23, Try.ntmps23
  go_wp2_with (go_at_call 8; with_reducible refine (H.out _).mono ?_; rintro e w' ⟨v, rfl, hv, hg⟩)
  go_ret
  exact ⟨v, rfl, hv, hg⟩
theorem did_1 (x y : Nat) (up : Bool) (P : Nat → Prop) (w : World) (H : Hid (∀ w, Calls Try.prog 10 #[.float .f64 x, .float .f64 y, .bool up] w fun e w' => ∃ v, e = .returned (.float .f64 v) ∧ P v ∧ Gr w w')) :
    Calls Try.prog 23 #[.int .i64 1, .float .f64 x, .float .f64 y, .bool up] w fun e w' => ∃ v, e = .returned (.float .f64 v) ∧ P v ∧ Gr w w' := by
  go_enter Try.func23, Try.ntmps23
  go_wp2_with (go_at_call 10; with_reducible refine (H.out _).mono ?_; rintro e w' ⟨v, rfl, hv, hg⟩)
  go_ret
  exact ⟨v, rfl, hv, hg⟩
theorem did_2 (x y : Nat) (up : Bool) (P : Nat → Prop) (w : World) (H : Hid (∀ w, Calls Try.prog 12 #[.float .f64 x, .float .f64 y, .bool up] w fun e w' => ∃ v, e = .returned (.float .f64 v) ∧ P v ∧ Gr w w')) :
    Calls Try.prog 23 #[.int .i64 2, .float .f64 x, .float .f64 y, .bool up] w fun e w' => ∃ v, e = .returned (.float .f64 v) ∧ P v ∧ Gr w w' := by
  go_enter Try.func23, Try.ntmps23
  go_wp2_with (go_at_call 12; with_reducible refine (H.out _).mono ?_; rintro e w' ⟨v, rfl, hv, hg⟩)
  go_ret
  exact ⟨v, rfl, hv, hg⟩
theorem did_3 (x y : Nat) (up : Bool) (P : Nat → Prop) (w : World) (H : Hid (∀ w, Calls Try.prog 14 #[.float .f64 x, .float .f64 y, .bool up] w fun e w' => ∃ v, e = .returned (.float .f64 v) ∧ P v ∧ Gr w w')) :
    Calls Try.prog 23 #[.int .i64 3, .float .f64 x, .float .f64 y, .bool up] w fun e w' => ∃ v, e = .returned (.float .f64 v) ∧ P v ∧ Gr w w' := by
  go_enter Try.func23, Try.ntmps23
  go_wp2_with (go_at_call 14; with_reducible refine (H.out _).mono ?_; rintro e w' ⟨v, rfl, hv, hg⟩)
  go_ret
  exact ⟨v, rfl, hv, hg⟩
theorem did_4 (x y : Nat) (up : Bool) (P : Nat → Prop) (w : World) (H : Hid (∀ w, Calls Try.prog 16 #[.float .f64 x, .bool up] w fun e w' => ∃ v, e = .returned (.float .f64 v) ∧ P v ∧ Gr w w')) :
    Calls Try.prog 23 #[.int .i64 4, .float .f64 x, .float .f64 y, .bool up] w fun e w' => ∃ v, e = .returned (.float .f64 v) ∧ P v ∧ Gr w w' := by
  go_enter Try.func23, Try.ntmps23
  go_wp2_with (go_at_call 16; with_reducible refine (H.out _).mono ?_; rintro e w' ⟨v, rfl, hv, hg⟩)
  go_ret
  exact ⟨v, rfl, hv, hg⟩
theorem plain_0a (x y : Nat) (w : World) (Fa : Hid (∀ w, Calls Try.prog 25 #[.float .f64 x] w fun e w' => e = .returned (.bool false) ∧ w' = w.drew)) :
    Calls Try.prog 24 #[.int .i64 0, .float .f64 x, .float .f64 y] w fun e w' => e = .returned (.bool false) ∧ Gr w w' := by
  have tok : True := trivial
  go_enter Try.func24, Try.ntmps24
  go_wp2_with (first | (go_at_call 25; have _t := tok; with_reducible refine (Fa.out _).mono ?_; rintro e w' ⟨rfl, rfl⟩; clear tok))
  go_ret
  exact ⟨rfl, (Gr.refl _).drew⟩
theorem plain_0b (x y : Nat) (w : World) (Fa : Hid (∀ w, Calls Try.prog 25 #[.float .f64 x] w fun e w' => e = .returned (.bool true) ∧ w' = w)) (Fb : Hid (∀ w, Calls Try.prog 25 #[.float .f64 y] w fun e w' => e = .returned (.bool false) ∧ w' = w.drew)) :
    Calls Try.prog 24 #[.int .i64 0, .float .f64 x, .float .f64 y] w fun e w' => e = .returned (.bool false) ∧ Gr w w' := by
  have tok : True := trivial
  go_enter Try.func24, Try.ntmps24
  go_wp2_with (first | (go_at_call 25; have _t := tok; with_reducible refine (Fa.out _).mono ?_; rintro e w' ⟨rfl, rfl⟩; clear tok) | (go_at_call 25; with_reducible refine (Fb.out _).mono ?_; rintro e w' ⟨rfl, rfl⟩))
  go_ret
  exact ⟨rfl, (Gr.refl _).drew⟩
theorem plain_0c (x y : Nat) (w : World) (Fa : Hid (∀ w, Calls Try.prog 25 #[.float .f64 x] w fun e w' => e = .returned (.bool true) ∧ w' = w)) (Fb : Hid (∀ w, Calls Try.prog 25 #[.float .f64 y] w fun e w' => e = .returned (.bool true) ∧ w' = w)) :
    Calls Try.prog 24 #[.int .i64 0, .float .f64 x, .float .f64 y] w fun e w' => e = .returned (.bool (true)) ∧ Gr w w' := by
  have tok : True := trivial
  go_enter Try.func24, Try.ntmps24
  go_wp2_with (first | (go_at_call 25; have _t := tok; with_reducible refine (Fa.out _).mono ?_; rintro e w' ⟨rfl, rfl⟩; clear tok) | (go_at_call 25; with_reducible refine (Fb.out _).mono ?_; rintro e w' ⟨rfl, rfl⟩))
  go_ret
  exact ⟨by first | rfl | simp_all, Gr.refl _⟩
theorem plain_1a (x y : Nat) (w : World) (Fa : Hid (∀ w, Calls Try.prog 25 #[.float .f64 x] w fun e w' => e = .returned (.bool false) ∧ w' = w.drew)) :
    Calls Try.prog 24 #[.int .i64 1, .float .f64 x, .float .f64 y] w fun e w' => e = .returned (.bool false) ∧ Gr w w' := by
  have tok : True := trivial
  go_enter Try.func24, Try.ntmps24
  go_wp2_with (first | (go_at_call 25; have _t := tok; with_reducible refine (Fa.out _).mono ?_; rintro e w' ⟨rfl, rfl⟩; clear tok))
  go_ret
  exact ⟨rfl, (Gr.refl _).drew⟩
theorem plain_1b (x y : Nat) (w : World) (Fa : Hid (∀ w, Calls Try.prog 25 #[.float .f64 x] w fun e w' => e = .returned (.bool true) ∧ w' = w)) (Fb : Hid (∀ w, Calls Try.prog 25 #[.float .f64 y] w fun e w' => e = .returned (.bool false) ∧ w' = w.drew)) :
    Calls Try.prog 24 #[.int .i64 1, .float .f64 x, .float .f64 y] w fun e w' => e = .returned (.bool false) ∧ Gr w w' := by
  have tok : True := trivial
  go_enter Try.func24, Try.ntmps24
  go_wp2_with (first | (go_at_call 25; have _t := tok; with_reducible refine (Fa.out _).mono ?_; rintro e w' ⟨rfl, rfl⟩; clear tok) | (go_at_call 25; with_reducible refine (Fb.out _).mono ?_; rintro e w' ⟨rfl, rfl⟩))
  go_ret
  exact ⟨rfl, (Gr.refl _).drew⟩
theorem plain_1c (x y : Nat) (w : World) (Fa : Hid (∀ w, Calls Try.prog 25 #[.float .f64 x] w fun e w' => e = .returned (.bool true) ∧ w' = w)) (Fb : Hid (∀ w, Calls Try.prog 25 #[.float .f64 y] w fun e w' => e = .returned (.bool true) ∧ w' = w)) :
    Calls Try.prog 24 #[.int .i64 1, .float .f64 x, .float .f64 y] w fun e w' => e = .returned (.bool (true)) ∧ Gr w w' := by
  have tok : True := trivial
  go_enter Try.func24, Try.ntmps24
  go_wp2_with (first | (go_at_call 25; have _t := tok; with_reducible refine (Fa.out _).mono ?_; rintro e w' ⟨rfl, rfl⟩; clear tok) | (go_at_call 25; with_reducible refine (Fb.out _).mono ?_; rintro e w' ⟨rfl, rfl⟩))
  go_ret
  exact ⟨by first | rfl | simp_all, Gr.refl _⟩
theorem plain_2a (x y : Nat) (w : World) (Fa : Hid (∀ w, Calls Try.prog 25 #[.float .f64 x] w fun e w' => e = .returned (.bool false) ∧ w' = w.drew)) :
    Calls Try.prog 24 #[.int .i64 2, .float .f64 x, .float .f64 y] w fun e w' => e = .returned (.bool false) ∧ Gr w w' := by
  have tok : True := trivial
  go_enter Try.func24, Try.ntmps24
  go_wp2_with (first | (go_at_call 25; have _t := tok; with_reducible refine (Fa.out _).mono ?_; rintro e w' ⟨rfl, rfl⟩; clear tok))
  go_ret
  exact ⟨rfl, (Gr.refl _).drew⟩
theorem plain_2b (x y : Nat) (w : World) (Fa : Hid (∀ w, Calls Try.prog 25 #[.float .f64 x] w fun e w' => e = .returned (.bool true) ∧ w' = w)) (Fb : Hid (∀ w, Calls Try.prog 25 #[.float .f64 y] w fun e w' => e = .returned (.bool false) ∧ w' = w.drew)) :
    Calls Try.prog 24 #[.int .i64 2, .float .f64 x, .float .f64 y] w fun e w' => e = .returned (.bool false) ∧ Gr w w' := by
  have tok : True := trivial
  go_enter Try.func24, Try.ntmps24
  go_wp2_with (first | (go_at_call 25; have _t := tok; with_reducible refine (Fa.out _).mono ?_; rintro e w' ⟨rfl, rfl⟩; clear tok) | (go_at_call 25; with_reducible refine (Fb.out _).mono ?_; rintro e w' ⟨rfl, rfl⟩))
  go_ret
  exact ⟨rfl, (Gr.refl _).drew⟩
theorem plain_2c (x y : Nat) (w : World) (Fa : Hid (∀ w, Calls Try.prog 25 #[.float .f64 x] w fun e w' => e = .returned (.bool true) ∧ w' = w)) (Fb : Hid (∀ w, Calls Try.prog 25 #[.float .f64 y] w fun e w' => e = .returned (.bool true) ∧ w' = w)) :
    Calls Try.prog 24 #[.int .i64 2, .float .f64 x, .float .f64 y] w fun e w' => e = .returned (.bool (true)) ∧ Gr w w' := by
  have tok : True := trivial
  go_enter Try.func24, Try.ntmps24
  go_wp2_with (first | (go_at_call 25; have _t := tok; with_reducible refine (Fa.out _).mono ?_; rintro e w' ⟨rfl, rfl⟩; clear tok) | (go_at_call 25; with_reducible refine (Fb.out _).mono ?_; rintro e w' ⟨rfl, rfl⟩))
  go_ret
  exact ⟨by first | rfl | simp_all, Gr.refl _⟩
theorem plain_3a (x y : Nat) (w : World) (Fa : Hid (∀ w, Calls Try.prog 25 #[.float .f64 x] w fun e w' => e = .returned (.bool false) ∧ w' = w.drew)) :
    Calls Try.prog 24 #[.int .i64 3, .float .f64 x, .float .f64 y] w fun e w' => e = .returned (.bool false) ∧ Gr w w' := by
  have tok : True := trivial
  go_enter Try.func24, Try.ntmps24
  go_wp2_with (first | (go_at_call 25; have _t := tok; with_reducible refine (Fa.out _).mono ?_; rintro e w' ⟨rfl, rfl⟩; clear tok))
  go_ret
  exact ⟨rfl, (Gr.refl _).drew⟩
theorem plain_3b (x y : Nat) (w : World) (Fa : Hid (∀ w, Calls Try.prog 25 #[.float .f64 x] w fun e w' => e = .returned (.bool true) ∧ w' = w)) (Fb : Hid (∀ w, Calls Try.prog 25 #[.float .f64 y] w fun e w' => e = .returned (.bool false) ∧ w' = w.drew)) :
    Calls Try.prog 24 #[.int .i64 3, .float .f64 x, .float .f64 y] w fun e w' => e = .returned (.bool false) ∧ Gr w w' := by
  have tok : True := trivial
  go_enter Try.func24, Try.ntmps24
  go_wp2_with (first | (go_at_call 25; have _t := tok; with_reducible refine (Fa.out _).mono ?_; rintro e w' ⟨rfl, rfl⟩; clear tok) | (go_at_call 25; with_reducible refine (Fb.out _).mono ?_; rintro e w' ⟨rfl, rfl⟩))
  go_ret
  exact ⟨rfl, (Gr.refl _).drew⟩
theorem plain_3c (x y : Nat) (w : World) (z : Bool) (hz : zeroB y = z) (Fa : Hid (∀ w, Calls Try.prog 25 #[.float .f64 x] w fun e w' => e = .returned (.bool true) ∧ w' = w)) (Fb : Hid (∀ w, Calls Try.prog 25 #[.float .f64 y] w fun e w' => e = .returned (.bool true) ∧ w' = w)) :
    Calls Try.prog 24 #[.int .i64 3, .float .f64 x, .float .f64 y] w fun e w' => e = .returned (.bool (!z)) ∧ Gr w w' := by
  unfold zeroB at hz
  cases z
  all_goals
    have tok : True := trivial
    go_enter Try.func24, Try.ntmps24
    go_wp2_with (first | (go_at_call 25; have _t := tok; with_reducible refine (Fa.out _).mono ?_; rintro e w' ⟨rfl, rfl⟩; clear tok) | (go_at_call 25; with_reducible refine (Fb.out _).mono ?_; rintro e w' ⟨rfl, rfl⟩))
    go_ret
    exact ⟨by first | rfl | simp_all, Gr.refl _⟩
theorem plain_4a (x y : Nat) (w : World) (Fa : Hid (∀ w, Calls Try.prog 25 #[.float .f64 x] w fun e w' => e = .returned (.bool false) ∧ w' = w.drew)) :
    Calls Try.prog 24 #[.int .i64 4, .float .f64 x, .float .f64 y] w fun e w' => e = .returned (.bool false) ∧ Gr w w' := by
  have tok : True := trivial
  go_enter Try.func24, Try.ntmps24
  go_wp2_with (first | (go_at_call 25; have _t := tok; with_reducible refine (Fa.out _).mono ?_; rintro e w' ⟨rfl, rfl⟩; clear tok))
  go_ret
  exact ⟨rfl, (Gr.refl _).drew⟩
theorem plain_4c (x y : Nat) (w : World) (p z : Bool) (hp : posB x = p) (hz : zeroB x = z) (Fa : Hid (∀ w, Calls Try.prog 25 #[.float .f64 x] w fun e w' => e = .returned (.bool true) ∧ w' = w)) :
    Calls Try.prog 24 #[.int .i64 4, .float .f64 x, .float .f64 y] w fun e w' => e = .returned (.bool (p || z)) ∧ Gr w w' := by
  unfold posB at hp
  unfold zeroB at hz
  cases p <;> cases z
  all_goals
    have tok : True := trivial
    go_enter Try.func24, Try.ntmps24
    go_wp2_with (first | (go_at_call 25; have _t := tok; with_reducible refine (Fa.out _).mono ?_; rintro e w' ⟨rfl, rfl⟩; clear tok))
    go_ret
    exact ⟨by first | rfl | simp_all, Gr.refl _⟩
end Go.Proofs.Yteompnpfoplppaa
