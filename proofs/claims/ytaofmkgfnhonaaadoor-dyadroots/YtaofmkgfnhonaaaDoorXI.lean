import Derived.Test.YtaofmkgfnhonaaaDoorXH
namespace Go.Proofs.YtaofmkgfnhonaaaDoor
open Go.RowKit
set_option linter.unusedVariables false

set_option maxHeartbeats 1600000 in
theorem clos28 (s t neg : Bool) (ad1 ad2 : Option Addr) (n1 n2 c1 c2 m : Nat) (e f g : Int) (pa pb : Nat) (w : World)
    (a0 : w.cell? ⟨pa, 0, none⟩ = some (.bool s)) (a1 : w.cell? ⟨pa, 1, none⟩ = some (.slice ad1 n1 c1)) (a2 : w.cell? ⟨pa, 2, none⟩ = some (.int .i64 e))
    (b0 : w.cell? ⟨pb, 0, none⟩ = some (.bool t)) (b1 : w.cell? ⟨pb, 1, none⟩ = some (.slice ad2 n2 c2)) (b2 : w.cell? ⟨pb, 2, none⟩ = some (.int .i64 f))
    (C : Hid (∀ w1, Gr w w1 → Calls Tryd.prog 24 #[.agg #[.bool s, .slice ad1 n1 c1, .int .i64 e], .agg #[.bool (t), .slice ad2 n2 c2, .int .i64 f]] w1 fun r w' => ∃ ad n cap, r = .returned (.tuple #[.agg #[.bool neg, .slice ad n cap, .int .i64 g], .int .i64 0]) ∧ n ≤ 1099511627776 ∧ Lim w' ad n cap 18446744073709551616 m ∧ Gr w1 w')) :
    Calls Tryd.prog 23 #[.pointer (some ⟨pa, 0, none⟩), .pointer (some ⟨pb, 0, none⟩)] w fun r w' => ∃ ad n cap, r = .returned (.tuple #[.agg #[.bool neg, .slice ad n cap, .int .i64 g], .int .i64 0]) ∧ n ≤ 1099511627776 ∧ Lim w' ad n cap 18446744073709551616 m ∧ Gr w w' := by
  have GA : Gr w (w.alloc (.cells #[.bool false, .slice none 0 0, .int .i64 0] 24)) := (Gr.refl w).alloc _
  have A0 := GA.keep a0
  have A1 := GA.keep a1
  have A2 := GA.keep a2
  have B0 := GA.keep b0
  have B1 := GA.keep b1
  have B2 := GA.keep b2
  have FB : Hid ((w.alloc (.cells #[.bool false, .slice none 0 0, .int .i64 0] 24)).heap[w.heap.size]? = some (.cells #[.bool false, .slice none 0 0, .int .i64 0] 24)) := by
    show (w.heap.push _)[w.heap.size]? = _
    simp only [Array.getElem?_push]
    rw [if_pos trivial]
  have hpa := lt_of_cell' a0
  have hpb := lt_of_cell' b0
  have hne1 : pa ≠ w.heap.size := Nat.ne_of_lt hpa
  have hne2 : pb ≠ w.heap.size := Nat.ne_of_lt hpb
  go_enter Tryd.func23, Tryd.ntmps23
  go_wp2_with (go_at_call 24; (with_reducible refine (C.out _ GA).mono ?_); rintro r w1 ⟨a3, m3, k3, rfl, hm3, hl3, g3⟩; have kb := g3.keepH FB.out; obtain ⟨t0, t1, t2, u0, u1, u2⟩ := Out3.of kb)
  refine bodyPost_ret (v := .tuple #[.agg #[.bool neg, .slice a3 m3 k3, .int .i64 g], .int .i64 0]) ?_ rfl ⟨a3, m3, k3, rfl, hm3, hl3.set3 (hl3.apart kb) _ _ _, ?_⟩
  · simp [results, Tryd.results23, go_sem, t0, t1, t2]
  · exact ((((GA.trans g3).setCell (p := ⟨w.heap.size, 0, none⟩) (Nat.le_refl _) _).setCell (p := ⟨w.heap.size, 1, none⟩) (Nat.le_refl _) _).setCell (p := ⟨w.heap.size, 2, none⟩) (Nat.le_refl _) _)

end Go.Proofs.YtaofmkgfnhonaaaDoor
