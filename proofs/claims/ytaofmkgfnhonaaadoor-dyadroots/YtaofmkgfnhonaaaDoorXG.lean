import Derived.Test.YtaofmkgfnhonaaaDoorXF
namespace Go.Proofs.YtaofmkgfnhonaaaDoor
open Go.RowKit
set_option linter.unusedVariables false

set_option maxHeartbeats 1600000 in
theorem reckon27_28 (s t neg : Bool) (ad1 ad2 : Option Addr) (n1 n2 c1 c2 m : Nat) (e f g : Int) (pa pb : Nat) (w : World) (hT : TabAt 1 Lib.deBruijn64tab w) (g1' : -1000000000000 ≤ g) (g2' : g ≤ 1000000000000)
    (R1 : Hid (∀ w1, Gr w w1 → Calls Tryd.prog 15 #[.agg #[.bool s, .slice ad1 n1 c1, .int .i64 e]] w1 fun r w' => r = .returned (.bool true) ∧ Gr w1 w'))
    (R2 : Hid (∀ w1, Gr w w1 → Calls Tryd.prog 15 #[.agg #[.bool t, .slice ad2 n2 c2, .int .i64 f]] w1 fun r w' => r = .returned (.bool true) ∧ Gr w1 w'))
    (C : Hid (∀ w1, Gr w w1 → Calls Tryd.prog 23 #[.pointer (some ⟨pa, 0, none⟩), .pointer (some ⟨pb, 0, none⟩)] w1 fun r w' => ∃ ad n cap, r = .returned (.tuple #[.agg #[.bool neg, .slice ad n cap, .int .i64 g], .int .i64 0]) ∧ n ≤ 1099511627776 ∧ Lim w' ad n cap 18446744073709551616 m ∧ Gr w1 w')) :
    Calls Tryd.prog 22 #[.agg #[.bool s, .slice ad1 n1 c1, .int .i64 e], .agg #[.bool t, .slice ad2 n2 c2, .int .i64 f], .func (.func 23) #[] #[.pointer (some ⟨pa, 0, none⟩), .pointer (some ⟨pb, 0, none⟩)]] w fun r w' => Settled w' r neg m g ∧ Gr w w' := by
  have S35 : Hid (∀ ad n cap w1, n ≤ 1099511627776 → Lim w1 ad n cap 18446744073709551616 m → Gr w w1 → Calls Tryd.prog 21 #[.agg #[.bool neg, .slice ad n cap, .int .i64 g]] w1 fun r w' => ∃ a b c d f' g', r = .returned (.tuple #[.agg #[.bool a, .slice b c d, .int .i64 f'], .int .i64 g']) ∧ Hid (Settled w' r neg m g) ∧ Gr w1 w') := fun ad n cap w1 hn hl gr => by
    obtain ⟨xs, rx, dx⟩ := hl
    refine (settle35 neg ad n cap m g xs w1 rx dx.2.1 dx.1 hn (tab_gr hT gr) g1' g2').mono ?_
    rintro r w' ⟨h1, h2⟩
    obtain ⟨a, b, c, d, f, g', hr⟩ := h1.form
    exact ⟨a, b, c, d, f, g', hr, h1, h2⟩
  clear hT
  have TB := three_blocks w (.bool s) (.slice ad1 n1 c1) (.int .i64 e) (.bool t) (.slice ad2 n2 c2) (.int .i64 f) (.cells #[.bool false, .slice none 0 0, .int .i64 0] 24) _ rfl
  have TB' : Hid _ := TB
  clear TB
  have tok : True := trivial
  go_enter Tryd.func22, Tryd.ntmps22
  go_wp2_with (first | (go_at_call 15; have _t := tok; (with_reducible refine (R1.out _ ((((Gr.refl w).alloc _).alloc _).alloc _)).mono ?_); rintro r w1 ⟨rfl, g1⟩; clear tok; have q0 := g1.keep TB'.out.1.1.2.2.2.1; have q1 := g1.keep TB'.out.1.1.2.2.2.2.1; have q2 := g1.keep TB'.out.1.1.2.2.2.2.2; have kb := g1.keepH TB'.out.2.1) | (go_at_call 15; (with_reducible refine (R2.out _ ?gg).mono ?_); (case gg => exact ((((Gr.refl w).alloc _).alloc _).alloc _).trans g1); rintro r w2 ⟨rfl, g2⟩; have kb2 := g2.keepH kb; have G2 := (((((Gr.refl w).alloc _).alloc _).alloc _).trans g1).trans g2; clear q0 q1 q2 kb) | (go_at_call 23; (with_reducible refine (C.out _ G2).mono ?_); rintro r w3 ⟨a3, m3, k3, rfl, hm3, hl3, g3⟩; have kb3 := ((Gr.refl w3).alloc (.cells #[.bool neg, .slice a3 m3 k3, .int .i64 g] 24)).keepH (g3.keepH kb2); have G3 := (G2.trans g3).alloc (.cells #[.bool neg, .slice a3 m3 k3, .int .i64 g] 24); have hl3' := hl3.gr ((Gr.refl w3).alloc (.cells #[.bool neg, .slice a3 m3 k3, .int .i64 g] 24)); clear kb2) | (go_at_call 21; (with_reducible refine (S35.out _ _ _ _ hm3 hl3' G3).mono ?_); rintro r w4 ⟨a, b, c, d, f', g', rfl, hS, g4⟩; have kb4 := g4.keepH kb3; clear kb3; obtain ⟨t0, t1, t2, u0, u1, u2⟩ := Out3.of kb4))
  refine bodyPost_ret (v := .tuple #[.agg #[.bool a, .slice b c d, .int .i64 f'], .int .i64 g']) ?_ rfl ⟨hS.out.set3 kb4 _ _ _, ?_⟩
  · simp [results, Tryd.results22, go_sem, t0, t1, t2]
  · exact (((G3.trans g4).setCell (p := ⟨w.heap.size + 2, 0, none⟩) (by show _ ≤ w.heap.size + 2; omega) _).setCell (p := ⟨w.heap.size + 2, 1, none⟩) (by show _ ≤ w.heap.size + 2; omega) _).setCell (p := ⟨w.heap.size + 2, 2, none⟩) (by show _ ≤ w.heap.size + 2; omega) _

set_option maxHeartbeats 1600000 in
theorem reckon27_31 (s t neg : Bool) (ad1 ad2 : Option Addr) (n1 n2 c1 c2 m : Nat) (e f g : Int) (pa pb : Nat) (w : World) (hT : TabAt 1 Lib.deBruijn64tab w) (g1' : -1000000000000 ≤ g) (g2' : g ≤ 1000000000000)
    (R1 : Hid (∀ w1, Gr w w1 → Calls Tryd.prog 15 #[.agg #[.bool s, .slice ad1 n1 c1, .int .i64 e]] w1 fun r w' => r = .returned (.bool true) ∧ Gr w1 w'))
    (R2 : Hid (∀ w1, Gr w w1 → Calls Tryd.prog 15 #[.agg #[.bool t, .slice ad2 n2 c2, .int .i64 f]] w1 fun r w' => r = .returned (.bool true) ∧ Gr w1 w'))
    (C : Hid (∀ w1, Gr w w1 → Calls Tryd.prog 25 #[.pointer (some ⟨pa, 0, none⟩), .pointer (some ⟨pb, 0, none⟩)] w1 fun r w' => ∃ ad n cap, r = .returned (.tuple #[.agg #[.bool neg, .slice ad n cap, .int .i64 g], .int .i64 0]) ∧ n ≤ 1099511627776 ∧ Lim w' ad n cap 18446744073709551616 m ∧ Gr w1 w')) :
    Calls Tryd.prog 22 #[.agg #[.bool s, .slice ad1 n1 c1, .int .i64 e], .agg #[.bool t, .slice ad2 n2 c2, .int .i64 f], .func (.func 25) #[] #[.pointer (some ⟨pa, 0, none⟩), .pointer (some ⟨pb, 0, none⟩)]] w fun r w' => Settled w' r neg m g ∧ Gr w w' := by
  have S35 : Hid (∀ ad n cap w1, n ≤ 1099511627776 → Lim w1 ad n cap 18446744073709551616 m → Gr w w1 → Calls Tryd.prog 21 #[.agg #[.bool neg, .slice ad n cap, .int .i64 g]] w1 fun r w' => ∃ a b c d f' g', r = .returned (.tuple #[.agg #[.bool a, .slice b c d, .int .i64 f'], .int .i64 g']) ∧ Hid (Settled w' r neg m g) ∧ Gr w1 w') := fun ad n cap w1 hn hl gr => by
    obtain ⟨xs, rx, dx⟩ := hl
    refine (settle35 neg ad n cap m g xs w1 rx dx.2.1 dx.1 hn (tab_gr hT gr) g1' g2').mono ?_
    rintro r w' ⟨h1, h2⟩
    obtain ⟨a, b, c, d, f, g', hr⟩ := h1.form
    exact ⟨a, b, c, d, f, g', hr, h1, h2⟩
  clear hT
  have TB := three_blocks w (.bool s) (.slice ad1 n1 c1) (.int .i64 e) (.bool t) (.slice ad2 n2 c2) (.int .i64 f) (.cells #[.bool false, .slice none 0 0, .int .i64 0] 24) _ rfl
  have TB' : Hid _ := TB
  clear TB
  have tok : True := trivial
  go_enter Tryd.func22, Tryd.ntmps22
  go_wp2_with (first | (go_at_call 15; have _t := tok; (with_reducible refine (R1.out _ ((((Gr.refl w).alloc _).alloc _).alloc _)).mono ?_); rintro r w1 ⟨rfl, g1⟩; clear tok; have q0 := g1.keep TB'.out.1.1.2.2.2.1; have q1 := g1.keep TB'.out.1.1.2.2.2.2.1; have q2 := g1.keep TB'.out.1.1.2.2.2.2.2; have kb := g1.keepH TB'.out.2.1) | (go_at_call 15; (with_reducible refine (R2.out _ ?gg).mono ?_); (case gg => exact ((((Gr.refl w).alloc _).alloc _).alloc _).trans g1); rintro r w2 ⟨rfl, g2⟩; have kb2 := g2.keepH kb; have G2 := (((((Gr.refl w).alloc _).alloc _).alloc _).trans g1).trans g2; clear q0 q1 q2 kb) | (go_at_call 25; (with_reducible refine (C.out _ G2).mono ?_); rintro r w3 ⟨a3, m3, k3, rfl, hm3, hl3, g3⟩; have kb3 := ((Gr.refl w3).alloc (.cells #[.bool neg, .slice a3 m3 k3, .int .i64 g] 24)).keepH (g3.keepH kb2); have G3 := (G2.trans g3).alloc (.cells #[.bool neg, .slice a3 m3 k3, .int .i64 g] 24); have hl3' := hl3.gr ((Gr.refl w3).alloc (.cells #[.bool neg, .slice a3 m3 k3, .int .i64 g] 24)); clear kb2) | (go_at_call 21; (with_reducible refine (S35.out _ _ _ _ hm3 hl3' G3).mono ?_); rintro r w4 ⟨a, b, c, d, f', g', rfl, hS, g4⟩; have kb4 := g4.keepH kb3; clear kb3; obtain ⟨t0, t1, t2, u0, u1, u2⟩ := Out3.of kb4))
  refine bodyPost_ret (v := .tuple #[.agg #[.bool a, .slice b c d, .int .i64 f'], .int .i64 g']) ?_ rfl ⟨hS.out.set3 kb4 _ _ _, ?_⟩
  · simp [results, Tryd.results22, go_sem, t0, t1, t2]
  · exact (((G3.trans g4).setCell (p := ⟨w.heap.size + 2, 0, none⟩) (by show _ ≤ w.heap.size + 2; omega) _).setCell (p := ⟨w.heap.size + 2, 1, none⟩) (by show _ ≤ w.heap.size + 2; omega) _).setCell (p := ⟨w.heap.size + 2, 2, none⟩) (by show _ ≤ w.heap.size + 2; omega) _
end Go.Proofs.YtaofmkgfnhonaaaDoor
