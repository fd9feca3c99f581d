import Derived.Test.YtaofmkgfnhonaaaDoorXI
namespace Go.Proofs.YtaofmkgfnhonaaaDoor
open Go.RowKit
set_option linter.unusedVariables false

set_option maxHeartbeats 1600000 in
theorem told9 (s t neg : Bool) (ad1 ad2 : Option Addr) (n1 n2 c1 c2 m : Nat) (e f g : Int) (w : World) (hT : TabAt 1 Lib.deBruijn64tab w) (g1' : -1000000000000 ≤ g) (g2' : g ≤ 1000000000000)
    (R1 : Hid (∀ w1, Gr w w1 → Calls Tryd.prog 15 #[.agg #[.bool s, .slice ad1 n1 c1, .int .i64 e]] w1 fun r w' => r = .returned (.bool true) ∧ Gr w1 w'))
    (R2 : Hid (∀ w1, Gr w w1 → Calls Tryd.prog 15 #[.agg #[.bool t, .slice ad2 n2 c2, .int .i64 f]] w1 fun r w' => r = .returned (.bool true) ∧ Gr w1 w'))
    (C : Hid (∀ w1, Gr w w1 → Calls Tryd.prog 24 #[.agg #[.bool s, .slice ad1 n1 c1, .int .i64 e], .agg #[.bool (t), .slice ad2 n2 c2, .int .i64 f]] w1 fun r w' => ∃ ad n cap, r = .returned (.tuple #[.agg #[.bool neg, .slice ad n cap, .int .i64 g], .int .i64 0]) ∧ n ≤ 1099511627776 ∧ Lim w' ad n cap 18446744073709551616 m ∧ Gr w1 w')) :
    Calls Tryd.prog 8 #[.agg #[.bool s, .slice ad1 n1 c1, .int .i64 e], .agg #[.bool t, .slice ad2 n2 c2, .int .i64 f]] w fun r w' => Settled w' r neg m g ∧ Gr w w' := by
  have TB := three_blocks w (.bool s) (.slice ad1 n1 c1) (.int .i64 e) (.bool t) (.slice ad2 n2 c2) (.int .i64 f) (.cells #[.bool false, .slice none 0 0, .int .i64 0] 24) _ rfl
  have G0 := TB.2.2
  have H27 : Hid (Calls Tryd.prog 22 #[.agg #[.bool s, .slice ad1 n1 c1, .int .i64 e], .agg #[.bool t, .slice ad2 n2 c2, .int .i64 f], .func (.func 23) #[] #[.pointer (some ⟨w.heap.size, 0, none⟩), .pointer (some ⟨w.heap.size + 1, 0, none⟩)]] (((w.alloc (.cells #[.bool s, .slice ad1 n1 c1, .int .i64 e] 24)).alloc (.cells #[.bool t, .slice ad2 n2 c2, .int .i64 f] 24)).alloc (.cells #[.bool false, .slice none 0 0, .int .i64 0] 24)) fun r w' => ∃ a b c d f' g', r = .returned (.tuple #[.agg #[.bool a, .slice b c d, .int .i64 f'], .int .i64 g']) ∧ Hid (Settled w' r neg m g) ∧ Gr (((w.alloc (.cells #[.bool s, .slice ad1 n1 c1, .int .i64 e] 24)).alloc (.cells #[.bool t, .slice ad2 n2 c2, .int .i64 f] 24)).alloc (.cells #[.bool false, .slice none 0 0, .int .i64 0] 24)) w') := by
    refine (reckon27_28 s t neg ad1 ad2 n1 n2 c1 c2 m e f g w.heap.size (w.heap.size + 1) _ (tab_gr hT G0) g1' g2' (fun w1 gr => R1.out w1 (G0.trans gr)) (fun w1 gr => R2.out w1 (G0.trans gr)) (fun w1 gr => clos28 s t neg ad1 ad2 n1 n2 c1 c2 m e f g w.heap.size (w.heap.size + 1) w1 (gr.keep TB.1.1.1) (gr.keep TB.1.1.2.1) (gr.keep TB.1.1.2.2.1) (gr.keep TB.1.1.2.2.2.1) (gr.keep TB.1.1.2.2.2.2.1) (gr.keep TB.1.1.2.2.2.2.2) (fun w2 gr2 => C.out w2 ((G0.trans gr).trans gr2)))).mono ?_
    rintro r w' ⟨h1, h2⟩
    obtain ⟨a, b, c, d, f, g', hr⟩ := h1.form
    exact ⟨a, b, c, d, f, g', hr, h1, h2⟩
  have TB' : Hid _ := TB
  clear TB hT R1 R2 C
  go_enter Tryd.func8, Tryd.ntmps8
  go_wp2_with (go_at_call 22; (with_reducible refine H27.out.mono ?_); rintro r w1 ⟨a, b, c, d, f', g', rfl, hS, g4⟩; have kb4 := g4.keepH TB'.out.2.1; obtain ⟨t0, t1, t2, u0, u1, u2⟩ := Out3.of kb4)
  refine bodyPost_ret (v := .tuple #[.agg #[.bool a, .slice b c d, .int .i64 f'], .int .i64 g']) ?_ rfl ⟨hS.out.set3 kb4 _ _ _, ?_⟩
  · simp [results, Tryd.results8, go_sem, t0, t1, t2]
  · exact (((G0.trans g4).setCell (p := ⟨w.heap.size + 2, 0, none⟩) (by show _ ≤ w.heap.size + 2; omega) _).setCell (p := ⟨w.heap.size + 2, 1, none⟩) (by show _ ≤ w.heap.size + 2; omega) _).setCell (p := ⟨w.heap.size + 2, 2, none⟩) (by show _ ≤ w.heap.size + 2; omega) _

end Go.Proofs.YtaofmkgfnhonaaaDoor
