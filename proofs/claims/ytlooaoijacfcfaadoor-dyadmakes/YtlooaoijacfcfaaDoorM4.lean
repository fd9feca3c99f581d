import Derived.Test.YtlooaoijacfcfaaDoorM3
namespace Go.Proofs.YtlooaoijacfcfaaDoor.Fl
open Go.RowKit
open Ieee
set_option linter.unusedVariables false

theorem int10nw (v : Nat) (n : Int) (h2 : v ≤ 9223372036854775808) (hv : n = -(v : Int)) (hn : n < 0) : IntKind.u64.wrap (-IntKind.u64.wrap n) = (v : Int) := by
  simp only [IntKind.wrap_u64]
  omega
set_option maxHeartbeats 1600000 in
theorem int10n (v : Nat) (n : Int) (w : World) (hn : n < 0) (hv : Hid (n = -(v : Int))) (h2 : v ≤ 9223372036854775808) (hT : TabAt 1 Lib.deBruijn64tab w) :
    Calls Tryd.prog 10 #[.int .i64 n] w fun r w' => ∃ a b c d f g, r = .returned (.agg #[.bool a, .slice b c d, .int .i64 f]) ∧ Hid (Settled w' (.returned (.tuple #[.agg #[.bool a, .slice b c d, .int .i64 f], .int .i64 g])) true v 0) ∧ Gr w w' := by
  have HS := settle1 true v 0 w (.cells #[.bool false, .slice none 0 0, .int .i64 0] 24) (by omega) hT (by omega) (by omega)
  have kb0 : Hid _ := first_block w (.cells #[.bool false, .slice none 0 0, .int .i64 0] 24)
  have hw : Hid (IntKind.u64.wrap (-IntKind.u64.wrap n) = (v : Int)) := int10nw v n h2 hv.out hn
  clear hT h2
  go_enter Tryd.func10, Tryd.ntmps10
  go_wp2_with (go_at_call 18; rw [hw.out]; (with_reducible refine HS.out.mono ?_); rintro r w2 ⟨za, zb, zc, zd, zf, zg, rfl, hS, g2⟩; have G2 := ((((Gr.refl w).alloc (.cells #[.bool false, .slice none 0 0, .int .i64 0] 24)).alloc (.cells #[.int .u64 (v : Int)] 39)).trans g2).alloc (.cells #[.bool za, .slice zb zc zd, .int .i64 zf] 24); have kb2 := ((Gr.refl w2).alloc (.cells #[.bool za, .slice zb zc zd, .int .i64 zf] 24)).keepH (g2.keepH (((Gr.refl _).alloc (.cells #[.int .u64 (v : Int)] 39)).keepH kb0.out)); obtain ⟨t0, t1, t2, u0, u1, u2⟩ := Out3.of kb2)
  refine bodyPost_ret (v := .agg #[.bool za, .slice zb zc zd, .int .i64 zf]) ?_ rfl ⟨za, zb, zc, zd, zf, zg, rfl, (hS.out.gr ((Gr.refl w2).alloc _)).set3 kb2 _ _ _, ((G2.setCell (p := ⟨w.heap.size, 0, none⟩) (Nat.le_refl _) _).setCell (p := ⟨w.heap.size, 1, none⟩) (Nat.le_refl _) _).setCell (p := ⟨w.heap.size, 2, none⟩) (Nat.le_refl _) _⟩
  simp [results, Tryd.results10, go_sem, t0, t1, t2]
theorem int10pw (v : Nat) (n : Int) (h2 : v ≤ 9223372036854775808) (hv : n = (v : Int)) : IntKind.u64.wrap n = (v : Int) := by
  simp only [IntKind.wrap_u64]
  omega
set_option maxHeartbeats 1600000 in
theorem int10p (v : Nat) (n : Int) (w : World) (hn : ¬ n < 0) (hv : Hid (n = (v : Int))) (h2 : v ≤ 9223372036854775808) (hT : TabAt 1 Lib.deBruijn64tab w) :
    Calls Tryd.prog 10 #[.int .i64 n] w fun r w' => ∃ a b c d f g, r = .returned (.agg #[.bool a, .slice b c d, .int .i64 f]) ∧ Hid (Settled w' (.returned (.tuple #[.agg #[.bool a, .slice b c d, .int .i64 f], .int .i64 g])) false v 0) ∧ Gr w w' := by
  have HS := settle1 false v 0 w (.cells #[.bool false, .slice none 0 0, .int .i64 0] 24) (by omega) hT (by omega) (by omega)
  have kb0 : Hid _ := first_block w (.cells #[.bool false, .slice none 0 0, .int .i64 0] 24)
  have hw : Hid (IntKind.u64.wrap n = (v : Int)) := int10pw v n h2 hv.out
  clear hT h2
  go_enter Tryd.func10, Tryd.ntmps10
  go_wp2_with (go_at_call 18; rw [hw.out]; (with_reducible refine HS.out.mono ?_); rintro r w2 ⟨za, zb, zc, zd, zf, zg, rfl, hS, g2⟩; have G2 := ((((Gr.refl w).alloc (.cells #[.bool false, .slice none 0 0, .int .i64 0] 24)).alloc (.cells #[.int .u64 (v : Int)] 39)).trans g2).alloc (.cells #[.bool za, .slice zb zc zd, .int .i64 zf] 24); have kb2 := ((Gr.refl w2).alloc (.cells #[.bool za, .slice zb zc zd, .int .i64 zf] 24)).keepH (g2.keepH (((Gr.refl _).alloc (.cells #[.int .u64 (v : Int)] 39)).keepH kb0.out)); obtain ⟨t0, t1, t2, u0, u1, u2⟩ := Out3.of kb2)
  refine bodyPost_ret (v := .agg #[.bool za, .slice zb zc zd, .int .i64 zf]) ?_ rfl ⟨za, zb, zc, zd, zf, zg, rfl, (hS.out.gr ((Gr.refl w2).alloc _)).set3 kb2 _ _ _, ((G2.setCell (p := ⟨w.heap.size, 0, none⟩) (Nat.le_refl _) _).setCell (p := ⟨w.heap.size, 1, none⟩) (Nat.le_refl _) _).setCell (p := ⟨w.heap.size, 2, none⟩) (Nat.le_refl _) _⟩
  simp [results, Tryd.results10, go_sem, t0, t1, t2]
set_option maxHeartbeats 1600000 in
theorem whole24n (v : Nat) (n : Int) (w : World) (hn : n < 0) (hv : Hid (n = -(v : Int))) (h2 : v ≤ 9223372036854775808) :
    Calls Tryd.prog 24 #[.int .i64 n] w fun r w' => ∃ ad m cap, r = .returned (.agg #[.bool true, .slice ad m cap, .int .i64 0]) ∧ Lim w' ad m cap 18446744073709551616 v ∧ Gr w w' := by
  have HN : Hid (∀ w1, Calls Tryd.prog 39 #[.int .u64 (v : Int)] w1 fun e w' => ∃ ad' n' cap', e = .returned (.slice ad' n' cap') ∧ Lim w' ad' n' cap' 18446744073709551616 v ∧ Gr w1 w') := fun w1 => of62 v w1 (by omega)
  have hw : Hid (IntKind.u64.wrap (-IntKind.u64.wrap n) = (v : Int)) := int10nw v n h2 hv.out hn
  clear h2
  go_enter Tryd.func24, Tryd.ntmps24
  go_wp2_with (go_at_call 39; rw [hw.out]; (with_reducible refine (HN.out _).mono ?_); rintro r w1 ⟨a3, m3, k3, rfl, hl3, g3⟩; have hb1 := (g3.block w.heap.size (by simp)).trans (heap_alloc_new w _); have hc1 := num_block hb1)
  refine bodyPost_ret (v := .agg #[.bool true, .slice a3 m3 k3, .int .i64 0]) (by simp [results, Tryd.results24, go_sem, hc1]) rfl ⟨a3, m3, k3, rfl, hl3.set3 (hl3.apart hb1) _ _ _, set3_gr (((Gr.refl w).alloc _).trans g3) (Nat.le_refl _) _ _ _⟩
set_option maxHeartbeats 1600000 in
theorem whole24p (v : Nat) (n : Int) (w : World) (hn : ¬ n < 0) (hv : Hid (n = (v : Int))) (h2 : v ≤ 9223372036854775808) :
    Calls Tryd.prog 24 #[.int .i64 n] w fun r w' => ∃ ad m cap, r = .returned (.agg #[.bool false, .slice ad m cap, .int .i64 0]) ∧ Lim w' ad m cap 18446744073709551616 v ∧ Gr w w' := by
  have HN : Hid (∀ w1, Calls Tryd.prog 39 #[.int .u64 (v : Int)] w1 fun e w' => ∃ ad' n' cap', e = .returned (.slice ad' n' cap') ∧ Lim w' ad' n' cap' 18446744073709551616 v ∧ Gr w1 w') := fun w1 => of62 v w1 (by omega)
  have hw : Hid (IntKind.u64.wrap n = (v : Int)) := int10pw v n h2 hv.out
  clear h2
  go_enter Tryd.func24, Tryd.ntmps24
  go_wp2_with (go_at_call 39; rw [hw.out]; (with_reducible refine (HN.out _).mono ?_); rintro r w1 ⟨a3, m3, k3, rfl, hl3, g3⟩; have hb1 := (g3.block w.heap.size (by simp)).trans (heap_alloc_new w _); have hc1 := num_block hb1)
  refine bodyPost_ret (v := .agg #[.bool false, .slice a3 m3 k3, .int .i64 0]) (by simp [results, Tryd.results24, go_sem, hc1]) rfl ⟨a3, m3, k3, rfl, hl3.set3 (hl3.apart hb1) _ _ _, set3_gr (((Gr.refl w).alloc _).trans g3) (Nat.le_refl _) _ _ _⟩
set_option maxRecDepth 10000 in
set_option maxHeartbeats 1600000 in
theorem int11 (v : Nat) (n : Int) (sg : Bool) (w : World) (h2 : v ≤ 9223372036854775808)
    (HW : Hid (∀ w1, Calls Tryd.prog 24 #[.int .i64 n] w1 fun r w' => ∃ ad m cap, r = .returned (.agg #[.bool sg, .slice ad m cap, .int .i64 0]) ∧ Lim w' ad m cap 18446744073709551616 v ∧ Gr w1 w')) :
    Calls Tryd.prog 11 #[.int .i64 n] w fun r w' => ∃ a b c d f g, r = .returned (.agg #[.bool a, .slice b c d, .int .i64 f]) ∧ Hid (Settled w' (.returned (.tuple #[.agg #[.bool a, .slice b c d, .int .i64 f], .int .i64 g])) sg v 0) ∧ Gr w w' := by
  have hm := bl_64 (v := v) (by omega)
  have H19 : Hid (∀ ad n cap w1, Lim w1 ad n cap 18446744073709551616 v → Calls Tryd.prog 19 #[.agg #[.bool sg, .slice ad n cap, .int .i64 0]] w1 fun r' w' => ∃ a b c d f' g', r' = .returned (.tuple #[.agg #[.bool a, .slice b c d, .int .i64 f'], .int .i64 g']) ∧ Hid (Settled w' r' sg v 0) ∧ Gr w1 w') := fun ad n cap w1 hl => told26f sg ad n cap v _ w1 hl (by omega) (by omega) (by omega)
  have kb0 : Hid _ := first_block w (.cells #[.bool false, .slice none 0 0, .int .i64 0] 24)
  clear hm h2
  go_enter Tryd.func11, Tryd.ntmps11
  go_wp2_with (first | (go_at_call 24; (with_reducible refine (HW.out _).mono ?_); rintro r w1 ⟨a1, n1, c1, rfl, l1, g1⟩) | (go_at_call 19; (with_reducible refine (H19.out _ _ _ _ l1).mono ?_); rintro r w2 ⟨za, zb, zc, zd, zf, zg, rfl, hS, g2⟩; have G2 := ((((Gr.refl w).alloc (.cells #[.bool false, .slice none 0 0, .int .i64 0] 24)).trans g1).trans g2).alloc (.cells #[.bool za, .slice zb zc zd, .int .i64 zf] 24); have kb2 := ((Gr.refl w2).alloc (.cells #[.bool za, .slice zb zc zd, .int .i64 zf] 24)).keepH (g2.keepH (g1.keepH kb0.out)); obtain ⟨t0, t1, t2, u0, u1, u2⟩ := Out3.of kb2))
  refine bodyPost_ret (v := .agg #[.bool za, .slice zb zc zd, .int .i64 zf]) ?_ rfl ⟨za, zb, zc, zd, zf, zg, rfl, (hS.out.gr ((Gr.refl w2).alloc _)).set3 kb2 _ _ _, ((G2.setCell (p := ⟨w.heap.size, 0, none⟩) (Nat.le_refl _) _).setCell (p := ⟨w.heap.size, 1, none⟩) (Nat.le_refl _) _).setCell (p := ⟨w.heap.size, 2, none⟩) (Nat.le_refl _) _⟩
  simp [results, Tryd.results11, go_sem, t0, t1, t2]
/-- Int and the statement's own tell the same -/
def BothI (n : Int) (w : World) : Prop := ∃ (S : Bool) (X : Nat) (E : Int),
    (∀ w1, Gr w w1 → Calls Tryd.prog 10 #[.int .i64 n] w1 fun r w' => ∃ ad m cap, r = .returned (.agg #[.bool S, .slice ad m cap, .int .i64 E]) ∧ Lim w' ad m cap 18446744073709551616 X ∧ Gr w1 w') ∧
    (∀ w1, Gr w w1 → Calls Tryd.prog 11 #[.int .i64 n] w1 fun r w' => ∃ ad m cap, r = .returned (.agg #[.bool S, .slice ad m cap, .int .i64 E]) ∧ Lim w' ad m cap 18446744073709551616 X ∧ Gr w1 w')
theorem both_int (n : Int) (w : World) (h1 : -9223372036854775808 ≤ n) (h2 : n ≤ 9223372036854775807) (hT : TabAt 1 Lib.deBruijn64tab w) : BothI n w := by
  have hkk := KK_eq
  have fin : ∀ (sg : Bool) (v : Nat), (∀ w1, Gr w w1 → Calls Tryd.prog 10 #[.int .i64 n] w1 fun r w' => ∃ a b c d f g, r = .returned (.agg #[.bool a, .slice b c d, .int .i64 f]) ∧ Hid (Settled w' (.returned (.tuple #[.agg #[.bool a, .slice b c d, .int .i64 f], .int .i64 g])) sg v 0) ∧ Gr w1 w') →
      (∀ w1, Gr w w1 → Calls Tryd.prog 11 #[.int .i64 n] w1 fun r w' => ∃ a b c d f g, r = .returned (.agg #[.bool a, .slice b c d, .int .i64 f]) ∧ Hid (Settled w' (.returned (.tuple #[.agg #[.bool a, .slice b c d, .int .i64 f], .int .i64 g])) sg v 0) ∧ Gr w1 w') → BothI n w := by
    intro sg v k1 k2
    obtain ⟨S, X, E, G, h⟩ := setv_ans (sv KK sg v 0)
    have one : ∀ (w1 w' : World) (r : Ending), (∃ a b c d f g, r = .returned (.agg #[.bool a, .slice b c d, .int .i64 f]) ∧ Hid (Settled w' (.returned (.tuple #[.agg #[.bool a, .slice b c d, .int .i64 f], .int .i64 g])) sg v 0) ∧ Gr w1 w') → ∃ ad m cap, r = .returned (.agg #[.bool S, .slice ad m cap, .int .i64 E]) ∧ Lim w' ad m cap 18446744073709551616 X ∧ Gr w1 w' := by
      rintro w1 w' r ⟨a, b, c, d, f, g, rfl, hS, hg⟩
      obtain ⟨s, ad, m, cap, e, g', hr, hA⟩ := h _ _ ⟨sg, v, 0, by omega, rfl, hS.out⟩
      obtain ⟨rfl, rfl, rfl, hl⟩ := hA
      injection hr with hr
      injection hr with hr
      have hr2 : Value.agg #[.bool a, .slice b c d, .int .i64 f] = .agg #[.bool s, .slice ad m cap, .int .i64 e] := by
        have := congrArg (fun z : Array Value => z[0]!) hr
        simpa using this
      exact ⟨ad, m, cap, by rw [hr2], hl, hg⟩
    exact ⟨S, X, E, fun w1 g => (k1 w1 g).mono fun r w' => one w1 w' r, fun w1 g => (k2 w1 g).mono fun r w' => one w1 w' r⟩
  by_cases hn : n < 0
  · have hv : Hid (n = -(n.natAbs : Int)) := by show _ = _; omega
    exact fin true n.natAbs (fun w1 g => int10n n.natAbs n w1 hn hv (by omega) (tab_gr hT g)) (fun w1 g => int11 n.natAbs n true w1 (by omega) (fun w2 => whole24n n.natAbs n w2 hn hv (by omega)))
  · have hv : Hid (n = (n.natAbs : Int)) := by show _ = _; omega
    exact fin false n.natAbs (fun w1 g => int10p n.natAbs n w1 hn hv (by omega) (tab_gr hT g)) (fun w1 g => int11 n.natAbs n false w1 (by omega) (fun w2 => whole24p n.natAbs n w2 hn hv (by omega)))
end Go.Proofs.YtlooaoijacfcfaaDoor.Fl
