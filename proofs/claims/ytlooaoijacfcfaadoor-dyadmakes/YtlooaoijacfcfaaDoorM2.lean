import Derived.Test.YtlooaoijacfcfaaDoorM1
namespace Go.Proofs.YtlooaoijacfcfaaDoor.Fl
open Go.RowKit
open Ieee
set_option linter.unusedVariables false

theorem told26f (s : Bool) (ad : Option Addr) (n cap x : Nat) (e : Int) (w : World) (hx : Lim w ad n cap 18446744073709551616 x) (hb : bl x ≤ 34359738368) (e1 : -1000000000000 ≤ e) (e2 : e ≤ 1000000000000) :
    Calls Tryd.prog 19 #[.agg #[.bool s, .slice ad n cap, .int .i64 e]] w fun r w' => ∃ a b c d f' g', r = .returned (.tuple #[.agg #[.bool a, .slice b c d, .int .i64 f'], .int .i64 g']) ∧ Hid (Settled w' r s x e) ∧ Gr w w' := by
  refine (told26 s ad n cap x e w hx hb e1 e2).mono ?_
  rintro r w' ⟨h1, h2⟩
  obtain ⟨a, b, c, d, f, g', hr⟩ := h1.form
  exact ⟨a, b, c, d, f, g', hr, h1, h2⟩
theorem bl_64 {v : Nat} (h : v < 18446744073709551616) : bl v ≤ 64 := bl_le_of_lt (by simpa using h)
theorem of5n (s : Bool) (r : Nat) (w : World) (h : r < 9223372036854775808) (hi : 9218868437227405312 ≤ r) :
    Calls Tryd.prog 5 #[.float .f64 (W s r)] w fun r w' => r = .returned (.tuple #[zeroD, .int .i64 5]) ∧ Gr w w' := by
  have h0 : double.sub (W s r) (W s r) = none := by
    by_cases hn : 9218868437227405312 < r
    · exact sub_nan s r _ h hn
    · have : r = 9218868437227405312 := by omega
      subst this
      exact sub_inf s
  obtain ⟨y, h1, h2⟩ := run_float_nan .sub (by simp) 25 (W s r) (W s r) (w.alloc (.cells #[.bool false, .slice none 0 0, .int .i64 0] 24)) h0
  have h3 : (FloatKind.f64.format.order y 0 != some .eq) = true := by rw [bne, nan_order y 0 h2]; rfl
  have kb : (w.alloc (.cells #[.bool false, .slice none 0 0, .int .i64 0] 24)).drew.heap[w.heap.size]? = _ := first_block w (.cells #[.bool false, .slice none 0 0, .int .i64 0] 24)
  obtain ⟨t0, t1, t2, u0, u1, u2⟩ := Out3.of kb
  clear kb h2 h0
  generalize W s r = x at *
  go_enter Tryd.func5, Tryd.ntmps5
  go_wp2
  refine bodyPost_ret (v := .tuple #[zeroD, .int .i64 5]) ?_ rfl ⟨rfl, ((Gr.refl w).alloc _).drew⟩
  simp [results, Tryd.results5, go_sem, t0, t1, t2, zeroD]
set_option maxRecDepth 10000 in
set_option maxHeartbeats 1600000 in
theorem of5 (s : Bool) (r : Nat) (w : World) (h : r < 9218868437227405312) :
    Calls Tryd.prog 5 #[.float .f64 (W s r)] w fun res w' => Settled w' res s (mant r) ((ex r : Int) - 1074) ∧ Gr w w' := by
  have h1 := sub_run (w.alloc (.cells #[.bool false, .slice none 0 0, .int .i64 0] 24)) _ _ _ (sub_self s r h)
  have h2 : (FloatKind.f64.format.order 0 0 != some .eq) = false := by decide +kernel
  have H20 : Hid (∀ w1, Calls Tryd.prog 20 #[.float .f64 (W s r)] w1 fun res w' => ∃ ad n cap, res = .returned (.agg #[.bool s, .slice ad n cap, .int .i64 ((ex r : Int) - 1074)]) ∧ Lim w' ad n cap 18446744073709551616 (mant r) ∧ Gr w1 w') := fun w1 => float41 s r w1 h
  have he : ex r ≤ 2047 := by unfold ex; omega
  have hm := bl_64 (mant_lt64 r)
  have H19 : Hid (∀ ad n cap w1, Lim w1 ad n cap 18446744073709551616 (mant r) → Calls Tryd.prog 19 #[.agg #[.bool s, .slice ad n cap, .int .i64 ((ex r : Int) - 1074)]] w1 fun r' w' => ∃ a b c d f' g', r' = .returned (.tuple #[.agg #[.bool a, .slice b c d, .int .i64 f'], .int .i64 g']) ∧ Hid (Settled w' r' s (mant r) ((ex r : Int) - 1074)) ∧ Gr w1 w') := fun ad n cap w1 hl => told26f s ad n cap (mant r) _ w1 hl (by omega) (by omega) (by omega)
  have kb0 : Hid _ := first_block w (.cells #[.bool false, .slice none 0 0, .int .i64 0] 24)
  clear he hm h
  generalize W s r = x at *
  generalize ((ex r : Int) - 1074) = E at *
  generalize mant r = X at *
  go_enter Tryd.func5, Tryd.ntmps5
  go_wp2_with (first | (go_at_call 20; (with_reducible refine (H20.out _).mono ?_); rintro r w1 ⟨a1, n1, c1, rfl, l1, g1⟩) | (go_at_call 19; (with_reducible refine (H19.out _ _ _ _ l1).mono ?_); rintro r w2 ⟨za, zb, zc, zd, zf, zg, rfl, hS, g2⟩; have G2 := (((Gr.refl w).alloc (.cells #[.bool false, .slice none 0 0, .int .i64 0] 24)).trans g1).trans g2; have kb2 := g2.keepH (g1.keepH kb0.out); obtain ⟨t0, t1, t2, u0, u1, u2⟩ := Out3.of kb2))
  refine bodyPost_ret (v := .tuple #[.agg #[.bool za, .slice zb zc zd, .int .i64 zf], .int .i64 zg]) ?_ rfl ⟨hS.out.set3 kb2 _ _ _, ((G2.setCell (p := ⟨w.heap.size, 0, none⟩) (Nat.le_refl _) _).setCell (p := ⟨w.heap.size, 1, none⟩) (Nat.le_refl _) _).setCell (p := ⟨w.heap.size, 2, none⟩) (Nat.le_refl _) _⟩
  simp [results, Tryd.results5, go_sem, t0, t1, t2]
end Go.Proofs.YtlooaoijacfcfaaDoor.Fl
