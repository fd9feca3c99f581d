import Derived.Test.YtbhaebemaggjfaaDoorSE
namespace Go.Proofs.YtbhaebemaggjfaaDoor
open Go.RowKit
set_option linter.unusedVariables false

def wr4 (j : Nat) : Nat := [0, 4611686018427387904, 4607182418800017408, 4613937818241073152].getD j 0
def rowR : Array Value := #[.complex .f64 0 0, .complex .f64 4611686018427387904 0, .complex .f64 4607182418800017408 0, .complex .f64 4613937818241073152 0]
theorem two_rows (u : World) : (∀ j, j < 4 → ((u.alloc (.cells rowR 36)).alloc (.cells rowR 36)).cell? ⟨u.heap.size, j, none⟩ = some (.complex .f64 (wr4 j) 0)) ∧ (∀ j, j < 4 → ((u.alloc (.cells rowR 36)).alloc (.cells rowR 36)).cell? ⟨u.heap.size + 1, j, none⟩ = some (.complex .f64 (wr4 j) 0)) := by
  have new : ∀ (u : World) j, j < 4 → (u.alloc (.cells rowR 36)).cell? ⟨u.heap.size, j, none⟩ = some (.complex .f64 (wr4 j) 0) := fun u j hj => by
    match j, hj with
    | 0, _ => simp [rowR, wr4]
    | 1, _ => simp [rowR, wr4]
    | 2, _ => simp [rowR, wr4]
    | 3, _ => simp [rowR, wr4]
  refine ⟨fun j hj => ((Gr.refl _).alloc _).keep (new u j hj), fun j hj => ?_⟩
  have := new (u.alloc (.cells rowR 36)) j hj
  rwa [show (u.alloc (.cells rowR 36)).heap.size = u.heap.size + 1 by simp] at this
set_option maxHeartbeats 4000000 in
theorem awake8 (w : World) (hT : TabF w) : Calls Tryd.prog 14 #[] w fun r w' => r = .returned (.bool true) ∧ Gr w w' := by
  have H4 : Hid (Calls Tryd.prog 10 #[.int .i64 3, .int .i64 3] w fun r w' => r = .returned (.tuple #[.int .i64 6, .int .i64 0]) ∧ w = w') := (turned4 3 3 w hT (by omega) (by omega) (by omega) (by omega)).mono fun r w' h => ⟨h.1, h.2.symm⟩
  have H6 : Hid (Calls Tryd.prog 16 #[.int .i64 16384] w fun r w' => r = .returned (.tuple #[.int .i64 14, .bool true]) ∧ w = w') := (order6_yes 14 16384 w (by omega) rfl (by omega) (by omega)).mono fun r w' h => ⟨h.1, h.2.symm⟩
  have H10 : Hid (∀ o : Obj, o = .cells #[.complex .f64 0 0, .complex .f64 4607182418800017408 0, .complex .f64 4611686018427387904 0, .complex .f64 4613937818241073152 0] 36 → Calls Tryd.prog 5 #[.slice (some ⟨w.heap.size, 0, none⟩) 4 4] (w.alloc o) fun r w' => r = .returned (.tuple #[.slice (some ⟨(w.alloc o).heap.size, 0, none⟩) 4 4, .int .i64 0]) ∧ w' = (w.alloc o).alloc (.cells #[.complex .f64 0 0, .complex .f64 4611686018427387904 0, .complex .f64 4607182418800017408 0, .complex .f64 4613937818241073152 0] 36)) := fun o ho => by
    subst ho
    exact row10 w.heap.size 0 0 4607182418800017408 0 4611686018427387904 0 4613937818241073152 0 _ (hT.gr ((Gr.refl w).alloc _)) (by simp) (by simp) (by simp) (by simp)
  have H11 : Hid (Calls Tryd.prog 8 #[.slice (some ⟨w.heap.size + 1, 0, none⟩) 4 4, .slice (some ⟨w.heap.size + 1 + 1, 0, none⟩) 4 4] (((w.alloc (.cells #[.complex .f64 0 0, .complex .f64 4607182418800017408 0, .complex .f64 4611686018427387904 0, .complex .f64 4613937818241073152 0] 36)).alloc (.cells #[.complex .f64 0 0, .complex .f64 4611686018427387904 0, .complex .f64 4607182418800017408 0, .complex .f64 4613937818241073152 0] 36)).alloc (.cells #[.complex .f64 0 0, .complex .f64 4611686018427387904 0, .complex .f64 4607182418800017408 0, .complex .f64 4613937818241073152 0] 36)) fun r w' => r = .returned (.bool true) ∧ Gr (((w.alloc (.cells #[.complex .f64 0 0, .complex .f64 4607182418800017408 0, .complex .f64 4611686018427387904 0, .complex .f64 4613937818241073152 0] 36)).alloc (.cells #[.complex .f64 0 0, .complex .f64 4611686018427387904 0, .complex .f64 4607182418800017408 0, .complex .f64 4613937818241073152 0] 36)).alloc (.cells #[.complex .f64 0 0, .complex .f64 4611686018427387904 0, .complex .f64 4607182418800017408 0, .complex .f64 4613937818241073152 0] 36)) w') := by
    have := two_rows (w.alloc (.cells #[.complex .f64 0 0, .complex .f64 4607182418800017408 0, .complex .f64 4611686018427387904 0, .complex .f64 4613937818241073152 0] 36))
    rw [show (w.alloc (.cells #[.complex .f64 0 0, .complex .f64 4607182418800017408 0, .complex .f64 4611686018427387904 0, .complex .f64 4613937818241073152 0] 36)).heap.size = w.heap.size + 1 by simp] at this
    exact sameRows11 _ _ 4 wr4 (fun _ => 0) _ (by omega) this.1 this.2
  have HG : Gr w (((w.alloc (.cells #[.complex .f64 0 0, .complex .f64 4607182418800017408 0, .complex .f64 4611686018427387904 0, .complex .f64 4613937818241073152 0] 36)).alloc (.cells #[.complex .f64 0 0, .complex .f64 4611686018427387904 0, .complex .f64 4607182418800017408 0, .complex .f64 4613937818241073152 0] 36)).alloc (.cells #[.complex .f64 0 0, .complex .f64 4611686018427387904 0, .complex .f64 4607182418800017408 0, .complex .f64 4613937818241073152 0] 36)) := (((Gr.refl w).alloc _).alloc _).alloc _
  clear hT
  go_enter Tryd.func14, Tryd.ntmps14
  go_wp2_with (first | (go_at_call 10; (with_reducible refine H4.out.mono ?_); rintro r w1 ⟨rfl, rfl⟩) | (go_at_call 16; (with_reducible refine H6.out.mono ?_); rintro r w1 ⟨rfl, rfl⟩) | (go_at_call 5; (with_reducible refine (H10.out _ rfl).mono ?_); rintro r w1 ⟨rfl, rfl⟩) | (go_at_call 8; (with_reducible refine H11.out.mono ?_); rintro r w1 ⟨rfl, g⟩))
  go_ret
  exact ⟨rfl, HG.trans g⟩
set_option maxHeartbeats 4000000 in
theorem tells3 (o p n : Int) (w : World) (hT : TabF w) (b1 : -9223372036854775808 ≤ o) (b2 : o ≤ 9223372036854775807) (b3 : -9223372036854775808 ≤ p) (b4 : p ≤ 9223372036854775807) (b5 : -9223372036854775808 ≤ n) (b6 : n ≤ 9223372036854775807) :
    Calls Tryd.prog 4 #[.int .i64 o, .int .i64 p, .int .i64 n] w fun r w' => r = .returned (.bool true) ∧ Gr w w' := by
  have H4 : Hid (Calls Tryd.prog 10 #[.int .i64 o, .int .i64 p] w fun r w' => r = .returned (.tuple #[.int .i64 (tv o p), .int .i64 (te o p)]) ∧ w = w') := (turned4 o p w hT b1 b2 b3 b4).mono fun r w' h => ⟨h.1, h.2.symm⟩
  have H5 : Hid (Calls Tryd.prog 15 #[.int .i64 o, .int .i64 p] w fun r w' => r = .returned (.tuple #[.int .i64 (tv o p), .int .i64 (te o p)]) ∧ w = w') := (refTurned5 o p w b1 b2 b3 b4).mono fun r w' h => ⟨h.1, h.2.symm⟩
  have H8 : Hid (Calls Tryd.prog 14 #[] w fun r w' => r = .returned (.bool true) ∧ Gr w w') := awake8 w hT
  obtain ⟨m, c, h6, h7⟩ : ∃ (m : Int) (c : Bool), (Calls Tryd.prog 16 #[.int .i64 n] w fun r w' => r = .returned (.tuple #[.int .i64 m, .bool c]) ∧ w = w') ∧ (Calls Tryd.prog 17 #[.int .i64 n] w fun r w' => r = .returned (.tuple #[.int .i64 m, .bool c]) ∧ w = w') := by
    by_cases h : ∃ k : Nat, k ≤ 14 ∧ ((2 ^ k : Nat) : Int) = n
    · obtain ⟨k, hk, hn⟩ := h
      exact ⟨_, _, (order6_yes k n w hk hn b5 b6).mono fun r w' h => ⟨h.1, h.2.symm⟩, (order7_yes k n w hk hn b5 b6).mono fun r w' h => ⟨h.1, h.2.symm⟩⟩
    · have h' : ∀ k : Nat, k ≤ 14 → ((2 ^ k : Nat) : Int) ≠ n := fun k hk e => h ⟨k, hk, e⟩
      exact ⟨_, _, (order6_no n w b5 b6 h').mono fun r w' h => ⟨h.1, h.2.symm⟩, (order7_no n w b5 b6 h').mono fun r w' h => ⟨h.1, h.2.symm⟩⟩
  have H6 := hide h6
  have H7 := hide h7
  generalize tv o p = a at *
  generalize te o p = e at *
  clear h6 h7 hT
  go_enter Tryd.func4, Tryd.ntmps4
  go_wp2_with (first | (go_at_call 10; (with_reducible refine H4.out.mono ?_); rintro r w1 ⟨rfl, rfl⟩) | (go_at_call 15; (with_reducible refine H5.out.mono ?_); rintro r w1 ⟨rfl, rfl⟩) | (go_at_call 16; (with_reducible refine H6.out.mono ?_); rintro r w1 ⟨rfl, rfl⟩) | (go_at_call 17; (with_reducible refine H7.out.mono ?_); rintro r w1 ⟨rfl, rfl⟩) | (go_at_call 14; (with_reducible refine H8.out.mono ?_); rintro r w1 ⟨rfl, g⟩))
  all_goals (go_ret; exact ⟨rfl, g⟩)
end Go.Proofs.YtbhaebemaggjfaaDoor
