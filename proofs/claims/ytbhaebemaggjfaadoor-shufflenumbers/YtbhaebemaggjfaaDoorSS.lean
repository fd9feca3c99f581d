import Derived.Test.YtbhaebemaggjfaaDoorSR
namespace Go.Proofs.YtbhaebemaggjfaaDoor
open Go.RowKit
set_option linter.unusedVariables false

theorem CR.head {w : World} {base g n cap m : Nat} {zs ys : List (Nat × Nat)} (h : w.ownsRow base 36 1 (.slice (some ⟨g, 0, none⟩) (n + m) cap) (n + m) (cz (zs ++ ys))) (hl : zs.length = n) : CR w (some ⟨g, 0, none⟩) n cap zs := by
  obtain ⟨c1, c2, _, c4⟩ := owns_cap h
  refine ⟨hl, by omega, c2, (fun h => by cases h), fun hp => ⟨g, rfl, c4, fun j hj => ?_⟩⟩
  rw [ownsC_cell' h j (by omega), getD_left (by omega)]
theorem CR.own {w : World} {base g n : Nat} {zs : List (Nat × Nat)} (h : w.ownsRow base 36 1 (.slice (some ⟨g, 0, none⟩) n n) n (cz zs)) : CR w (some ⟨g, 0, none⟩) n n zs := by
  have := CR.head (m := 0) (ys := []) (by rw [Nat.add_zero, List.append_nil]; exact h) (owns_len h)
  exact this
theorem two_apart (n gA gB base : Nat) (zs : List (Nat × Nat)) (w : World) (hn : n ≤ 60) (hA : w.ownsRow base 36 1 (.slice (some ⟨gA, 0, none⟩) n n) n (cz zs)) (hB : w.ownsRow base 36 1 (.slice (some ⟨gB, 0, none⟩) n n) n (cz zs)) (hne : gA ≠ gB) (hb : base ≤ w.heap.size) :
    Calls Tryd.prog 23 #[.slice (some ⟨w.heap.size, 0, none⟩) 2 2] (w.alloc (.cells #[.slice (some ⟨gA, 0, none⟩) n n, .slice (some ⟨gB, 0, none⟩) n n] 25)) fun r w' => r = .returned (.bool true) ∧ ∀ a0, Gr a0 w → a0.heap.size ≤ base → Gr a0 w' := by
  have hblk := blkN w (.cells #[.slice (some ⟨gA, 0, none⟩) n n, .slice (some ⟨gB, 0, none⟩) n n] 25)
  have G : Gr w (w.alloc (.cells #[.slice (some ⟨gA, 0, none⟩) n n, .slice (some ⟨gB, 0, none⟩) n n] 25)) := (Gr.refl w).alloc _
  have two : ∀ k, k < 2 → k = 0 ∨ k = 1 := fun k hk => by omega
  refine (apart23 2 w.heap.size 2 base (fun k => if k = 0 then .slice (some ⟨gA, 0, none⟩) n n else .slice (some ⟨gB, 0, none⟩) n n) (fun _ => n) (fun _ => zs) _ (by omega) (by omega) (by omega) (by omega) ⟨fun k hk => ?_, fun j k hj hk b h1 h2 => ?_, fun _ _ => hn, fun k hk => ?_⟩ (Nat.le_trans hb G.size) (fun k hk => ?_)).mono fun r w' h => ⟨h.1, fun a0 h0 hl => h.2 a0 (h0.trans G) hl⟩
  · rcases two k hk with rfl | rfl
    · exact ⟨_, rfl⟩
    · exact ⟨_, rfl⟩
  · rcases two j hj with rfl | rfl <;> rcases two k hk with rfl | rfl
    · rfl
    · exfalso
      simp [Value.ownBlock] at h1 h2
      exact hne (h1.trans h2.symm)
    · exfalso
      simp [Value.ownBlock] at h1 h2
      exact hne (h2.trans h1.symm)
    · rfl
  · rcases two k hk with rfl | rfl
    · exact G.owns hA
    · exact G.owns hB
  · rcases two k hk with rfl | rfl <;> (simp only [World.cell?, hblk]; rfl)
set_option maxRecDepth 20000 in
set_option maxHeartbeats 8000000 in
/-- ShuffleRows, of a row of an order -/
theorem rows9_yes (o n c b : Nat) (zs : List (Nat × Nat)) (w : World) (hT : TabF w) (ho : o ≤ 14) (hno : n = 2 ^ o) (hn : n ≤ 60) (hr : CR w (some ⟨b, 0, none⟩) n c zs) :
    Calls Tryd.prog 9 #[.slice (some ⟨b, 0, none⟩) n c] w fun r w' => r = .returned (.bool true) ∧ Gr w w' := by
  have n0 : 0 < n := by rw [hno]; exact Nat.two_pow_pos o
  have hlen := hr.len
  have O17 : Hid (∀ w1, Calls Tryd.prog 17 #[.int .i64 (n : Int)] w1 fun r w' => r = .returned (.tuple #[.int .i64 (o : Int), .bool true]) ∧ w1 = w') := fun w1 => (order7_yes o (n : Int) w1 ho (by rw [hno]) (by omega) (by omega)).mono fun r w' h => ⟨h.1, h.2.symm⟩
  have L20 := hide (lent20 n c b zs w n0 (by omega) hr)
  have R5 : Hid (∀ ad cap w1, Gr w w1 → CR w1 ad n cap zs → Calls Tryd.prog 5 #[.slice ad n cap] w1 fun r w' => r = .returned (.tuple #[.slice (some ⟨w1.heap.size, 0, none⟩) n n, .int .i64 0]) ∧ w'.ownsRow w1.heap.size 36 1 (.slice (some ⟨w1.heap.size, 0, none⟩) n n) n (cz (tz o zs n)) ∧ Gr w1 w') := fun ad cap w1 g h => row5 o n cap ad zs w1 (hT.gr g) ho hno h
  have R7 : Hid (∀ w1, Gr w w1 → Calls Tryd.prog 7 #[.slice (some ⟨b, 0, none⟩) n c] w1 fun r w' => ∃ adw cw, r = .returned (.tuple #[.slice adw n cw, .int .i64 0]) ∧ w'.ownsRow w1.heap.size 36 1 (.slice adw n cw) n (cz (tz o zs n)) ∧ Gr w1 w') := fun w1 g => (ref7 o n c _ zs w1 ho hno (hr.gr g)).mono fun r w' h => by
    obtain ⟨v, h1, h2, h3⟩ := h
    obtain ⟨adw, cw, rfl, _⟩ := CR.of_owns h2
    exact ⟨adw, cw, h1, h2, h3⟩
  have S8 : Hid (∀ gA adw cw base1 base2 w1, w1.ownsRow base1 36 1 (.slice (some ⟨gA, 0, none⟩) n n) n (cz (tz o zs n)) → w1.ownsRow base2 36 1 (.slice adw n cw) n (cz (tz o zs n)) → Calls Tryd.prog 8 #[.slice (some ⟨gA, 0, none⟩) n n, .slice adw n cw] w1 fun r w' => r = .returned (.bool true) ∧ Gr w1 w') := fun gA adw cw base1 base2 w1 h1 h2 => by
    obtain ⟨ad2, c2, e, h3⟩ := CR.of_owns h2
    injection e with e1 _ e3
    subst e1 e3
    exact sameR8 _ _ n _ _ _ w1 (by omega) (CR.own h1) h3
  have K21 : Hid (∀ g cap w1, Gr w w1 → w1.ownsRow w.heap.size 36 1 (.slice (some ⟨g, 0, none⟩) (n + 12) cap) (n + 12) (cz (zs ++ mz 1 12)) → Calls Tryd.prog 21 #[.slice (some ⟨g, 0, none⟩) n cap, .slice (some ⟨b, 0, none⟩) n c] w1 fun r w' => r = .returned (.bool true) ∧ Gr w1 w') := fun g cap w1 gr h => kept21 w.heap.size g n cap b c zs w1 n0 (by omega) h (hr.gr gr)
  have V22 : Hid (∀ g cap w1, w1.ownsRow w.heap.size 36 1 (.slice (some ⟨g, 0, none⟩) (n + 12) cap) (n + 12) (cz (zs ++ mz 1 12)) → Calls Tryd.prog 22 #[.slice (some ⟨g, 0, none⟩) n cap] w1 fun r w' => r = .returned (.tuple #[]) ∧ Gx g w1 w') := fun g cap w1 h => over22 w.heap.size g n cap _ w1 (by omega) h
  have A23 : Hid (∀ gA gB b1 b2 w1, w1.ownsRow b1 36 1 (.slice (some ⟨gA, 0, none⟩) n n) n (cz (tz o zs n)) → w1.ownsRow b2 36 1 (.slice (some ⟨gB, 0, none⟩) n n) n (cz (tz o zs n)) → w.heap.size ≤ b1 → w.heap.size ≤ b2 → gA ≠ gB → Gr w w1 → Calls Tryd.prog 23 #[.slice (some ⟨w1.heap.size, 0, none⟩) 2 2] (w1.alloc (.cells #[.slice (some ⟨gA, 0, none⟩) n n, .slice (some ⟨gB, 0, none⟩) n n] 25)) fun r w' => r = .returned (.bool true) ∧ Gr w w') := fun gA gB b1 b2 w1 h1 h2 l1 l2 hne g => (two_apart n gA gB w.heap.size _ w1 hn (owns_base h1 l1) (owns_base h2 l2) hne g.size).mono fun r w' h => ⟨h.1, h.2 w g (Nat.le_refl _)⟩
  have AW : Hid (∀ w1, Gr w w1 → Calls Tryd.prog 14 #[] w1 fun r w' => r = .returned (.bool true) ∧ Gr w1 w') := fun w1 g => awake8 w1 (hT.gr g)
  clear hT hr hno
  go_enter Tryd.func9, Tryd.ntmps9
  go_wp2_with (first | (go_at_call 17; (with_reducible refine (O17.out _).mono ?_); rintro r w1 ⟨rfl, rfl⟩) | (go_at_call 20; (with_reducible refine L20.out.mono ?_); rintro r w1 ⟨g, cap, rfl, OL, g1⟩; have OL := hide OL; have G := hide g1; have hg1 := (OL.out.lt g rfl); have hs1 := G.out.size; clear g1; have tk : True := trivial) | (go_at_call 5; have _t := tk; (with_reducible refine (R5.out _ _ _ G.out (CR.head OL.out hlen)).mono ?_); rintro r w2 ⟨rfl, OA, g2⟩; clear tk; have OA := hide OA; have G := hide (G.out.trans g2); have OL := hide (g2.owns OL.out); have sA := (OA.out.lt _ rfl).2; have hs2 := G.out.size) | (go_at_call 5; (with_reducible refine (R5.out _ _ _ G.out (CR.head OL.out hlen)).mono ?_); rintro r w3 ⟨rfl, OB, g3⟩; have OB := hide OB; have OA := hide (g3.owns OA.out); have G := hide (G.out.trans g3); have OL := hide (g3.owns OL.out); have sB := (OB.out.lt _ rfl)) | (go_at_call 7; (with_reducible refine (R7.out _ G.out).mono ?_); rintro r w4 ⟨adw, cw, rfl, OW, g4⟩; have OW := hide OW; have OA := hide (g4.owns OA.out); have OB := hide (g4.owns OB.out); have G := hide (G.out.trans g4); have OL := hide (g4.owns OL.out)) | (go_at_call 8; (with_reducible refine (S8.out _ _ _ _ _ _ OA.out OW.out).mono ?_); rintro r w5 ⟨rfl, g5⟩; have OA := hide (g5.owns OA.out); have OB := hide (g5.owns OB.out); have OW := hide (g5.owns OW.out); have G := hide (G.out.trans g5); (first | (have OL := hide (g5.owns OL.out)) | skip)) | (go_at_call 8; (with_reducible refine (S8.out _ _ _ _ _ _ OB.out OW.out).mono ?_); rintro r w5 ⟨rfl, g5⟩; have OA := hide (g5.owns OA.out); have OB := hide (g5.owns OB.out); have OW := hide (g5.owns OW.out); have G := hide (G.out.trans g5); (first | (have OL := hide (g5.owns OL.out)) | skip)) | (go_at_call 21; (with_reducible refine (K21.out _ _ _ G.out OL.out).mono ?_); rintro r w6 ⟨rfl, g6⟩; have OA := hide (g6.owns OA.out); have OB := hide (g6.owns OB.out); have OW := hide (g6.owns OW.out); have G := hide (G.out.trans g6); have OL := hide (g6.owns OL.out)) | (go_at_call 22; (with_reducible refine (V22.out _ _ _ OL.out).mono ?_); rintro r w7 ⟨rfl, gx⟩; have G := hide (gx.gr G.out hg1.1); have OA := hide (gx.owns OA.out (fun k hk e => by have := (OA.out.lt k hk).1; omega)); have OB := hide (gx.owns OB.out (fun k hk e => by have := (OB.out.lt k hk).1; omega)); have OW := hide (gx.owns OW.out (fun k hk e => by have := (OW.out.lt k hk).1; omega)); have OL : True := trivial) | (go_at_call 23; (with_reducible refine (A23.out _ _ _ _ _ OA.out OB.out hs1 hs2 (Nat.ne_of_lt sA) G.out).mono ?_); rintro r w8 ⟨rfl, g8⟩; have G := hide g8) | (go_at_call 14; (with_reducible refine (AW.out _ G.out).mono ?_); rintro r w9 ⟨rfl, g9⟩))
  go_ret
  exact ⟨rfl, G.out.trans g9⟩
end Go.Proofs.YtbhaebemaggjfaaDoor
