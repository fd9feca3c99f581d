import Derived.Test.YtbhaebemaggjfaaDoorSQ
namespace Go.Proofs.YtbhaebemaggjfaaDoor
open Go.RowKit
set_option linter.unusedVariables false

set_option maxRecDepth 20000 in
set_option maxHeartbeats 8000000 in
/-- ShuffleRows, of a row of no order -/
theorem rows9_no (n c b : Nat) (zs : List (Nat × Nat)) (w : World) (hT : TabF w) (n0 : 0 < n) (hn : n ≤ 1048576) (hr : CR w (some ⟨b, 0, none⟩) n c zs) (hno : ∀ k : Nat, k ≤ 14 → ((2 ^ k : Nat) : Int) ≠ (n : Int)) :
    Calls Tryd.prog 9 #[.slice (some ⟨b, 0, none⟩) n c] w fun r w' => r = .returned (.bool true) ∧ Gr w w' := by
  have O17 : Hid (∀ w1, Calls Tryd.prog 17 #[.int .i64 (n : Int)] w1 fun r w' => r = .returned (.tuple #[.int .i64 0, .bool false]) ∧ w1 = w') := fun w1 => (order7_no (n : Int) w1 (by omega) (by omega) hno).mono fun r w' h => ⟨h.1, h.2.symm⟩
  have L20 := hide (lent20 n c b zs w n0 hn hr)
  have R5 : Hid (∀ ad cap w1, Calls Tryd.prog 5 #[.slice ad n cap] w1 fun r w' => r = .returned (.tuple #[.slice none 0 0, .int .i64 4]) ∧ w1 = w') := fun ad cap w1 => row5_no n cap ad w1 hn hno
  have R7 : Hid (∀ ad cap w1, Calls Tryd.prog 7 #[.slice ad n cap] w1 fun r w' => r = .returned (.tuple #[.slice none 0 0, .int .i64 4]) ∧ w1 = w') := fun ad cap w1 => ref7_no n cap ad w1 hn hno
  have S8 : Hid (∀ w1, Calls Tryd.prog 8 #[.slice none 0 0, .slice none 0 0] w1 fun r w' => r = .returned (.bool true) ∧ Gr w1 w') := fun w1 => sameR8 none none 0 0 0 [] w1 (by omega) (CR.empty w1) (CR.empty w1)
  have K21 : Hid (∀ g cap w1, Gr w w1 → w1.ownsRow w.heap.size 36 1 (.slice (some ⟨g, 0, none⟩) (n + 12) cap) (n + 12) (cz (zs ++ mz 1 12)) → Calls Tryd.prog 21 #[.slice (some ⟨g, 0, none⟩) n cap, .slice (some ⟨b, 0, none⟩) n c] w1 fun r w' => r = .returned (.bool true) ∧ Gr w1 w') := fun g cap w1 gr h => kept21 w.heap.size g n cap b c zs w1 n0 hn h (hr.gr gr)
  have V22 : Hid (∀ g cap w1, w1.ownsRow w.heap.size 36 1 (.slice (some ⟨g, 0, none⟩) (n + 12) cap) (n + 12) (cz (zs ++ mz 1 12)) → Calls Tryd.prog 22 #[.slice (some ⟨g, 0, none⟩) n cap] w1 fun r w' => r = .returned (.tuple #[]) ∧ Gx g w1 w') := fun g cap w1 h => over22 w.heap.size g n cap _ w1 hn h
  have A23 : Hid (∀ w1, Calls Tryd.prog 23 #[.slice (some ⟨w1.heap.size, 0, none⟩) 2 2] (w1.alloc (.cells #[.slice none 0 0, .slice none 0 0] 25)) fun r w' => r = .returned (.bool true) ∧ Gr w1 w') := fun w1 => by
    have hb := blkN w1 (.cells #[.slice none 0 0, .slice none 0 0] 25)
    refine (apart23 2 w1.heap.size 2 w1.heap.size (fun _ => .slice none 0 0) (fun _ => 0) (fun _ => []) _ (by omega) (by omega) (by omega) (by omega) ⟨fun _ _ => ⟨none, rfl⟩, fun _ _ _ _ _ h => (by cases h), fun _ _ => (by omega), fun _ _ => World.ownsRow_nil _ _ _ _⟩ (by simp) (fun k hk => ?_)).mono fun r w' h => ⟨h.1, h.2 w1 ((Gr.refl w1).alloc _) (Nat.le_refl _)⟩
    rcases (show k = 0 ∨ k = 1 by omega) with rfl | rfl <;> (simp only [World.cell?, hb]; rfl)
  have AW : Hid (∀ w1, Gr w w1 → Calls Tryd.prog 14 #[] w1 fun r w' => r = .returned (.bool true) ∧ Gr w1 w') := fun w1 g => awake8 w1 (hT.gr g)
  clear hT hr hno
  go_enter Tryd.func9, Tryd.ntmps9
  go_wp2_with (first | (go_at_call 17; (with_reducible refine (O17.out _).mono ?_); rintro r w1 ⟨rfl, rfl⟩) | (go_at_call 20; (with_reducible refine L20.out.mono ?_); rintro r w1 ⟨g, cap, rfl, OL, g1⟩; have OL := hide OL; have G := hide g1; clear g1) | (go_at_call 5; (with_reducible refine (R5.out _ _ _).mono ?_); rintro r w2 ⟨rfl, rfl⟩) | (go_at_call 7; (with_reducible refine (R7.out _ _ _).mono ?_); rintro r w2 ⟨rfl, rfl⟩) | (go_at_call 8; (with_reducible refine (S8.out _).mono ?_); rintro r w3 ⟨rfl, g3⟩; have G := hide (G.out.trans g3); (first | (have OL := hide (g3.owns OL.out)) | skip)) | (go_at_call 21; (with_reducible refine (K21.out _ _ _ G.out OL.out).mono ?_); rintro r w4 ⟨rfl, g4⟩; have G := hide (G.out.trans g4); have OL := hide (g4.owns OL.out)) | (go_at_call 22; (with_reducible refine (V22.out _ _ _ OL.out).mono ?_); rintro r w5 ⟨rfl, gx⟩; have G := hide (gx.gr G.out ((OL.out.lt g rfl).1)); have OL : True := trivial) | (go_at_call 23; (with_reducible refine (A23.out _).mono ?_); rintro r w6 ⟨rfl, g6⟩; have G := hide (G.out.trans g6)) | (go_at_call 14; (with_reducible refine (AW.out _ G.out).mono ?_); rintro r w7 ⟨rfl, g7⟩))
  go_ret
  exact ⟨rfl, G.out.trans g7⟩
end Go.Proofs.YtbhaebemaggjfaaDoor
