import Derived.Test.YtbhaebemaggjfaaDoorSS
import Derived.Deep.RegionHeld3
namespace Go.Proofs.YtbhaebemaggjfaaDoor
open Go.RowKit
set_option linter.unusedVariables false

theorem keep1 {W wo wn : World} {p o : Nat} {v : Value} (g : Gr wo wn) (h : wo.cell? ⟨p, o, none⟩ = some v ∧ Gr W wo) : wn.cell? ⟨p, o, none⟩ = some v ∧ Gr W wn := ⟨g.keep h.1, h.2.trans g⟩
theorem r6 (n : Nat) (w : World) (hn : n ≤ 1048576) : Calls Tryd.prog 6 #[.int .i64 (n : Int)] w fun r w' => ∃ ad cap, r = .returned (.slice ad n cap) ∧ CR w' ad n cap (rz n) ∧ Gr w w' := (row6 n w hn).mono fun r w' h => by
  obtain ⟨v, h1, h2, h3⟩ := h
  obtain ⟨ad, cap, rfl, h4⟩ := CR.of_owns h2
  exact ⟨ad, cap, h1, h4, h3⟩
/-- both Rows tell the same -/
theorem both57 (n : Nat) (zs : List (Nat × Nat)) (w : World) (hT : TabF w) (hn : n ≤ 1048576) : ∃ (m : Nat) (E : Int) (ys : List (Nat × Nat)), m ≤ 1048576 ∧
    (∀ ad cap w1, Gr w w1 → CR w1 ad n cap zs → Calls Tryd.prog 5 #[.slice ad n cap] w1 fun r w' => ∃ ad2 c2, r = .returned (.tuple #[.slice ad2 m c2, .int .i64 E]) ∧ CR w' ad2 m c2 ys ∧ Gr w1 w') ∧
    (∀ ad cap w1, Gr w w1 → CR w1 ad n cap zs → Calls Tryd.prog 7 #[.slice ad n cap] w1 fun r w' => ∃ ad2 c2, r = .returned (.tuple #[.slice ad2 m c2, .int .i64 E]) ∧ CR w' ad2 m c2 ys ∧ Gr w1 w') := by
  by_cases h : ∃ k : Nat, k ≤ 14 ∧ n = 2 ^ k
  · obtain ⟨o, ho, hno⟩ := h
    refine ⟨n, 0, tz o zs n, hn, fun ad cap w1 g hr => ?_, fun ad cap w1 g hr => ?_⟩
    · refine (row5 o n cap ad zs w1 (hT.gr g) ho hno hr).mono ?_
      rintro r w' ⟨h1, h2, h3⟩
      exact ⟨_, _, h1, CR.own h2, h3⟩
    · refine (ref7 o n cap ad zs w1 ho hno hr).mono ?_
      rintro r w' ⟨v, h1, h2, h3⟩
      obtain ⟨ad2, c2, rfl, h4⟩ := CR.of_owns h2
      exact ⟨ad2, c2, h1, h4, h3⟩
  · have hno : ∀ k : Nat, k ≤ 14 → ((2 ^ k : Nat) : Int) ≠ (n : Int) := fun k hk e => h ⟨k, hk, by omega⟩
    refine ⟨0, 4, [], by omega, fun ad cap w1 g hr => ?_, fun ad cap w1 g hr => ?_⟩
    · refine (row5_no n cap ad w1 hn hno).mono ?_
      rintro r w' ⟨h1, rfl⟩
      exact ⟨none, 0, h1, CR.empty _, Gr.refl _⟩
    · refine (ref7_no n cap ad w1 hn hno).mono ?_
      rintro r w' ⟨h1, rfl⟩
      exact ⟨none, 0, h1, CR.empty _, Gr.refl _⟩
theorem rows9 (n : Nat) (w : World) (hT : TabF w) (n0 : 0 < n) (hn : n ≤ 1048576) (h : n = 2 ∨ ∀ k, k < 15 → 2 ^ k ≠ n) (ad : Option Addr) (cap : Nat) (w1 : World) (g : Gr w w1) (hr : CR w1 ad n cap (rz n)) : Calls Tryd.prog 9 #[.slice ad n cap] w1 fun r w' => r = .returned (.bool true) ∧ Gr w1 w' := by
  obtain ⟨b, rfl, _⟩ := hr.cells n0
  rcases h with rfl | h
  · exact rows9_yes 1 2 cap b _ w1 (hT.gr g) (by omega) rfl (by omega) hr
  · exact rows9_no n cap b _ w1 (hT.gr g) n0 hn hr (fun k hk e => h k (by omega) (by omega))
theorem cr4 (w : World) (a0 b0 a1 b1 a2 b2 a3 b3 : Nat) : CR (w.alloc (.cells #[.complex .f64 a0 b0, .complex .f64 a1 b1, .complex .f64 a2 b2, .complex .f64 a3 b3] 36)) (some ⟨w.heap.size, 0, none⟩) 4 4 [(a0, b0), (a1, b1), (a2, b2), (a3, b3)] := by
  have hb := blkN w (.cells #[.complex .f64 a0 b0, .complex .f64 a1 b1, .complex .f64 a2 b2, .complex .f64 a3 b3] 36)
  refine ⟨rfl, by omega, by omega, (fun h => by cases h), fun _ => ⟨w.heap.size, rfl, by simp, fun j hj => ?_⟩⟩
  rcases (show j = 0 ∨ j = 1 ∨ j = 2 ∨ j = 3 by omega) with rfl | rfl | rfl | rfl <;> (simp only [World.cell?, hb]; rfl)
theorem keep4 {W wo wn : World} {p : Nat} {a0 a1 a2 a3 : Value} (g : Gr wo wn) (h : (wo.cell? ⟨p, 0, none⟩ = some a0 ∧ wo.cell? ⟨p, 1, none⟩ = some a1 ∧ wo.cell? ⟨p, 2, none⟩ = some a2 ∧ wo.cell? ⟨p, 3, none⟩ = some a3) ∧ Gr W wo) : (wn.cell? ⟨p, 0, none⟩ = some a0 ∧ wn.cell? ⟨p, 1, none⟩ = some a1 ∧ wn.cell? ⟨p, 2, none⟩ = some a2 ∧ wn.cell? ⟨p, 3, none⟩ = some a3) ∧ Gr W wn := ⟨⟨g.keep h.1.1, g.keep h.1.2.1, g.keep h.1.2.2.1, g.keep h.1.2.2.2⟩, h.2.trans g⟩
theorem from24 (x : Int) (w : World) : (callFunc 24 #[.int .u64 x]).run Tryd.prog w = .ok (.value (.float .f64 x.toNat)) w := by
  kernel_rfl
theorem fbits25 (x : Nat) (w : World) : (callFunc 25 #[.float .f64 x]).run Tryd.prog w = .ok (.value (.int .u64 x)) w := by
  kernel_rfl
theorem nan12 (w : World) : Calls Tryd.prog 12 #[] w fun r w' => r = .returned (.float .f64 9221120237041090561) ∧ w = w' := by
  have h1 := from24
  go_enter Tryd.func12, Tryd.ntmps12
  go_wp2
  go_ret
  exact ⟨rfl, rfl⟩
theorem inf13 (w : World) : Calls Tryd.prog 13 #[.int .i64 1] w fun r w' => r = .returned (.float .f64 9218868437227405312) ∧ w = w' := by
  have h1 := from24
  go_enter Tryd.func13, Tryd.ntmps13
  go_wp2
  go_ret
  exact ⟨rfl, rfl⟩
theorem copy11 (w : World) : Calls Tryd.prog 11 #[.float .f64 0, .float .f64 13830554455654793216] w fun r w' => r = .returned (.float .f64 9223372036854775808) ∧ w = w' := by
  have h1 := from24
  have h2 := fbits25
  have h3 : (bits BinOp.or IntKind.u64 (bits BinOp.andNot IntKind.u64 0 9223372036854775808) (bits BinOp.and IntKind.u64 13830554455654793216 9223372036854775808)) = 9223372036854775808 := by decide +kernel
  go_enter Tryd.func11, Tryd.ntmps11
  go_wp2
  go_ret
  exact ⟨by first | rfl | decide +kernel, rfl⟩
set_option maxRecDepth 20000 in
set_option maxHeartbeats 40000000 in
theorem nums3 (w : World) (hT : TabF w) : Calls Tryd.prog 3 #[] w fun r w' => r = .returned (.bool true) ∧ Gr w w' := by
  have HT := hide hT
  have T4 : Hid (∀ (o p q : Int) w1, Gr w w1 → -9223372036854775808 ≤ o → o ≤ 9223372036854775807 → -9223372036854775808 ≤ p → p ≤ 9223372036854775807 → -9223372036854775808 ≤ q → q ≤ 9223372036854775807 → Calls Tryd.prog 4 #[.int .i64 o, .int .i64 p, .int .i64 q] w1 fun r w' => r = .returned (.bool true) ∧ Gr w1 w') := fun o p q w1 g b1 b2 b3 b4 b5 b6 => tells3 o p q w1 (hT.gr g) b1 b2 b3 b4 b5 b6
  clear hT
  go_enter Tryd.func3, Tryd.ntmps3
  go_wp2
  go_loopw [1] (fun i wr => (∃ k : Int, -1 ≤ k ∧ k ≤ 16 ∧ i = .int .i64 k) ∧ Hid (Gr w wr)) (fun i _ => (16 - intOf i).toNat)
  case atStart => exact ⟨⟨-1, by omega, by omega, rfl⟩, Gr.refl _⟩
  case round =>
    obtain ⟨⟨k, k0, k1, rfl⟩, hg⟩ := hrel
    rcases (show k = -1 ∨ k = 0 ∨ k = 1 ∨ k = 2 ∨ k = 3 ∨ k = 4 ∨ k = 5 ∨ k = 6 ∨ k = 7 ∨ k = 8 ∨ k = 9 ∨ k = 10 ∨ k = 11 ∨ k = 12 ∨ k = 13 ∨ k = 14 ∨ k = 15 ∨ k = 16 by omega) with rfl | rfl | rfl | rfl | rfl | rfl | rfl | rfl | rfl | rfl | rfl | rfl | rfl | rfl | rfl | rfl | rfl | rfl
    · obtain ⟨m, E, ys, hm, h5, h7⟩ := both57 1 (rz 1) w HT.out (by omega)
      have R5 := hide h5
      have R7 := hide h7
      have R6 : Hid (∀ w1, Calls Tryd.prog 6 #[.int .i64 1] w1 fun r w' => ∃ ad cap, r = .returned (.slice ad 1 cap) ∧ CR w' ad 1 cap (rz 1) ∧ Gr w1 w') := fun w1 => r6 1 w1 (by omega)
      have R6b : Hid (∀ w1, Calls Tryd.prog 6 #[.int .i64 2] w1 fun r w' => ∃ ad cap, r = .returned (.slice ad 2 cap) ∧ CR w' ad 2 cap (rz 2) ∧ Gr w1 w') := fun w1 => r6 2 w1 (by omega)
      have R9 : Hid (∀ ad cap w1, Gr w w1 → CR w1 ad 2 cap (rz 2) → Calls Tryd.prog 9 #[.slice ad 2 cap] w1 fun r w' => r = .returned (.bool true) ∧ Gr w1 w') := fun ad cap w1 g h => rows9 2 w HT.out (by omega) (by omega) (Or.inl rfl) ad cap w1 g h
      have S8 : Hid (∀ a1 c1 a2 c2 w1, CR w1 a1 m c1 ys → CR w1 a2 m c2 ys → Calls Tryd.prog 8 #[.slice a1 m c1, .slice a2 m c2] w1 fun r w' => r = .returned (.bool true) ∧ Gr w1 w') := fun a1 c1 a2 c2 w1 h1 h2 => sameR8 a1 a2 m c1 c2 ys w1 hm h1 h2
      have CP : Hid (∀ i, i < 6 → ∃ v : Int, (wr.alloc (.cells #[.int .i64 (-1), .int .i64 0, .int .i64 1, .int .i64 0, .int .i64 0, .int .i64 1] 3)).cell? ⟨wr.heap.size, i, none⟩ = some (.int .i64 v) ∧ -100000 ≤ v ∧ v ≤ 100000) := by
        have hb := blkN wr (.cells #[.int .i64 (-1), .int .i64 0, .int .i64 1, .int .i64 0, .int .i64 0, .int .i64 1] 3)
        intro i hi
        rcases (show i = 0 ∨ i = 1 ∨ i = 2 ∨ i = 3 ∨ i = 4 ∨ i = 5 by omega) with rfl | rfl | rfl | rfl | rfl | rfl <;> exact ⟨_, by (simp only [World.cell?, hb]; rfl), by omega, by omega⟩
      have GP := hide (hg.out.alloc (.cells #[.int .i64 (-1), .int .i64 0, .int .i64 1, .int .i64 0, .int .i64 0, .int .i64 1] 3))
      clear h5 h7 hm
      go_wp2
      generalize wr.alloc (.cells #[.int .i64 (-1), .int .i64 0, .int .i64 1, .int .i64 0, .int .i64 0, .int .i64 1] 3) = wp at *
      generalize wr.heap.size = bp at *
      go_loopw [4] (fun i wr => ∃ j : Nat, j ≤ 6 ∧ i = .int .i64 (j : Int) ∧ Hid (Gr wp wr)) (fun i _ => 6 - (intOf i).toNat)
      case atStart => exact ⟨0, by omega, rfl, Gr.refl _⟩
      case round =>
        obtain ⟨j, hj, rfl, hgi⟩ := hrel
        by_cases hj6 : j < 6
        · obtain ⟨v, hv, v1, v2⟩ := CP.out j hj6
          replace hv := hgi.out.keep hv
          have hi2 : (j : Int) < 6 := by omega
          have TT := hide (T4.out (-1) v v wr.drew (GP.out.trans hgi.out).drew (by omega) (by omega) (by omega) (by omega) (by omega) (by omega))
          go_wp2
          have hS0 : wr.drew.cell? ⟨bp, j, none⟩ = some (.int .i64 v) ∧ Gr wr wr.drew := ⟨hv, (Gr.refl wr).drew⟩
          clear hv
          go_region_held3 (fun w' => w'.cell? ⟨bp, j, none⟩ = some (.int .i64 v) ∧ Gr wr w') (first | (with_reducible assumption) | (apply keep1; (with_reducible assumption); (with_reducible assumption))) (first | (go_at_call 4; (with_reducible refine TT.out.mono ?_); rintro r w2 ⟨rfl, g2⟩))
          go_wp2
          go_roundw
          case rel => exact ⟨j + 1, by omega, by go_num, hgi.out.trans ((Gr.refl wr).drew.trans g2)⟩
          case measure => simp only [intOf]; omega
        · have hj7 : j = 6 := by omega
          have kj : ¬ ((j : Int) < 6) := by omega
          clear hj hj6
          have G := hide (GP.out.trans hgi.out)
          have TL : Hid (∀ w1, Gr w w1 → Calls Tryd.prog 4 #[.int .i64 (-1), .int .i64 4611686018427387904, .int .i64 1] w1 fun r w' => r = .returned (.bool true) ∧ Gr w1 w') := fun w1 g => T4.out (-1) 4611686018427387904 1 w1 g (by omega) (by omega) (by omega) (by omega) (by omega) (by omega)
          have tk : True := trivial
          go_wp2_with (first | (go_at_call 6; have _t := tk; (with_reducible refine (R6.out _).mono ?_); rintro r w2 ⟨ad, cap, rfl, C2, g2⟩; clear tk; have G := hide (G.out.trans g2); have tk1 : True := trivial) | (go_at_call 5; (with_reducible refine (R5.out _ _ _ G.out C2).mono ?_); rintro r w3 ⟨ad2, c2, rfl, C3, g3⟩; clear C2; have G := hide (G.out.trans g3)) | (go_at_call 6; have _t := tk1; (with_reducible refine (R6.out _).mono ?_); rintro r w4 ⟨ad4, cap4, rfl, C4, g4⟩; clear tk1; have G := hide (G.out.trans g4); have C3 := C3.gr g4) | (go_at_call 7; (with_reducible refine (R7.out _ _ _ G.out C4).mono ?_); rintro r w5 ⟨ad5, c5, rfl, C5, g5⟩; clear C4; have G := hide (G.out.trans g5); have C3 := C3.gr g5) | (go_at_call 8; (with_reducible refine (S8.out _ _ _ _ _ C3 C5).mono ?_); rintro r w6 ⟨rfl, g6⟩; have G := hide (G.out.trans g6)) | (go_at_call 6; (with_reducible refine (R6b.out _).mono ?_); rintro r w7 ⟨ad7, cap7, rfl, C7, g7⟩; have G := hide (G.out.trans g7)) | (go_at_call 9; (with_reducible refine (R9.out _ _ _ G.out C7).mono ?_); rintro r w8 ⟨rfl, g8⟩; have G := hide (G.out.trans g8)) | (go_at_call 4; (with_reducible refine (TL.out _ G.out).mono ?_); rintro r w9 ⟨rfl, g9⟩; have G := hide (G.out.trans g9)))
          go_roundw
          case rel => exact ⟨⟨0, by omega, by omega, rfl⟩, G.out⟩
          case measure => simp only [intOf]; omega
    · obtain ⟨m, E, ys, hm, h5, h7⟩ := both57 1 (rz 1) w HT.out (by omega)
      have R5 := hide h5
      have R7 := hide h7
      have R6 : Hid (∀ w1, Calls Tryd.prog 6 #[.int .i64 1] w1 fun r w' => ∃ ad cap, r = .returned (.slice ad 1 cap) ∧ CR w' ad 1 cap (rz 1) ∧ Gr w1 w') := fun w1 => r6 1 w1 (by omega)
      have R6b : Hid (∀ w1, Calls Tryd.prog 6 #[.int .i64 2] w1 fun r w' => ∃ ad cap, r = .returned (.slice ad 2 cap) ∧ CR w' ad 2 cap (rz 2) ∧ Gr w1 w') := fun w1 => r6 2 w1 (by omega)
      have R9 : Hid (∀ ad cap w1, Gr w w1 → CR w1 ad 2 cap (rz 2) → Calls Tryd.prog 9 #[.slice ad 2 cap] w1 fun r w' => r = .returned (.bool true) ∧ Gr w1 w') := fun ad cap w1 g h => rows9 2 w HT.out (by omega) (by omega) (Or.inl rfl) ad cap w1 g h
      have S8 : Hid (∀ a1 c1 a2 c2 w1, CR w1 a1 m c1 ys → CR w1 a2 m c2 ys → Calls Tryd.prog 8 #[.slice a1 m c1, .slice a2 m c2] w1 fun r w' => r = .returned (.bool true) ∧ Gr w1 w') := fun a1 c1 a2 c2 w1 h1 h2 => sameR8 a1 a2 m c1 c2 ys w1 hm h1 h2
      have CP : Hid (∀ i, i < 6 → ∃ v : Int, (wr.alloc (.cells #[.int .i64 (-1), .int .i64 0, .int .i64 1, .int .i64 0, .int .i64 0, .int .i64 1] 3)).cell? ⟨wr.heap.size, i, none⟩ = some (.int .i64 v) ∧ -100000 ≤ v ∧ v ≤ 100000) := by
        have hb := blkN wr (.cells #[.int .i64 (-1), .int .i64 0, .int .i64 1, .int .i64 0, .int .i64 0, .int .i64 1] 3)
        intro i hi
        rcases (show i = 0 ∨ i = 1 ∨ i = 2 ∨ i = 3 ∨ i = 4 ∨ i = 5 by omega) with rfl | rfl | rfl | rfl | rfl | rfl <;> exact ⟨_, by (simp only [World.cell?, hb]; rfl), by omega, by omega⟩
      have GP := hide (hg.out.alloc (.cells #[.int .i64 (-1), .int .i64 0, .int .i64 1, .int .i64 0, .int .i64 0, .int .i64 1] 3))
      clear h5 h7 hm
      go_wp2
      generalize wr.alloc (.cells #[.int .i64 (-1), .int .i64 0, .int .i64 1, .int .i64 0, .int .i64 0, .int .i64 1] 3) = wp at *
      generalize wr.heap.size = bp at *
      go_loopw [4] (fun i wr => ∃ j : Nat, j ≤ 6 ∧ i = .int .i64 (j : Int) ∧ Hid (Gr wp wr)) (fun i _ => 6 - (intOf i).toNat)
      case atStart => exact ⟨0, by omega, rfl, Gr.refl _⟩
      case round =>
        obtain ⟨j, hj, rfl, hgi⟩ := hrel
        by_cases hj6 : j < 6
        · obtain ⟨v, hv, v1, v2⟩ := CP.out j hj6
          replace hv := hgi.out.keep hv
          have hi2 : (j : Int) < 6 := by omega
          have TT := hide (T4.out 0 v v wr.drew (GP.out.trans hgi.out).drew (by omega) (by omega) (by omega) (by omega) (by omega) (by omega))
          go_wp2
          have hS0 : wr.drew.cell? ⟨bp, j, none⟩ = some (.int .i64 v) ∧ Gr wr wr.drew := ⟨hv, (Gr.refl wr).drew⟩
          clear hv
          go_region_held3 (fun w' => w'.cell? ⟨bp, j, none⟩ = some (.int .i64 v) ∧ Gr wr w') (first | (with_reducible assumption) | (apply keep1; (with_reducible assumption); (with_reducible assumption))) (first | (go_at_call 4; (with_reducible refine TT.out.mono ?_); rintro r w2 ⟨rfl, g2⟩))
          go_wp2
          go_roundw
          case rel => exact ⟨j + 1, by omega, by go_num, hgi.out.trans ((Gr.refl wr).drew.trans g2)⟩
          case measure => simp only [intOf]; omega
        · have hj7 : j = 6 := by omega
          have kj : ¬ ((j : Int) < 6) := by omega
          clear hj hj6
          have G := hide (GP.out.trans hgi.out)
          have TL : Hid (∀ w1, Gr w w1 → Calls Tryd.prog 4 #[.int .i64 0, .int .i64 4611686018427387904, .int .i64 2] w1 fun r w' => r = .returned (.bool true) ∧ Gr w1 w') := fun w1 g => T4.out 0 4611686018427387904 2 w1 g (by omega) (by omega) (by omega) (by omega) (by omega) (by omega)
          have tk : True := trivial
          go_wp2_with (first | (go_at_call 6; have _t := tk; (with_reducible refine (R6.out _).mono ?_); rintro r w2 ⟨ad, cap, rfl, C2, g2⟩; clear tk; have G := hide (G.out.trans g2); have tk1 : True := trivial) | (go_at_call 5; (with_reducible refine (R5.out _ _ _ G.out C2).mono ?_); rintro r w3 ⟨ad2, c2, rfl, C3, g3⟩; clear C2; have G := hide (G.out.trans g3)) | (go_at_call 6; have _t := tk1; (with_reducible refine (R6.out _).mono ?_); rintro r w4 ⟨ad4, cap4, rfl, C4, g4⟩; clear tk1; have G := hide (G.out.trans g4); have C3 := C3.gr g4) | (go_at_call 7; (with_reducible refine (R7.out _ _ _ G.out C4).mono ?_); rintro r w5 ⟨ad5, c5, rfl, C5, g5⟩; clear C4; have G := hide (G.out.trans g5); have C3 := C3.gr g5) | (go_at_call 8; (with_reducible refine (S8.out _ _ _ _ _ C3 C5).mono ?_); rintro r w6 ⟨rfl, g6⟩; have G := hide (G.out.trans g6)) | (go_at_call 6; (with_reducible refine (R6b.out _).mono ?_); rintro r w7 ⟨ad7, cap7, rfl, C7, g7⟩; have G := hide (G.out.trans g7)) | (go_at_call 9; (with_reducible refine (R9.out _ _ _ G.out C7).mono ?_); rintro r w8 ⟨rfl, g8⟩; have G := hide (G.out.trans g8)) | (go_at_call 4; (with_reducible refine (TL.out _ G.out).mono ?_); rintro r w9 ⟨rfl, g9⟩; have G := hide (G.out.trans g9)))
          go_roundw
          case rel => exact ⟨⟨1, by omega, by omega, rfl⟩, G.out⟩
          case measure => simp only [intOf]; omega
    · obtain ⟨m, E, ys, hm, h5, h7⟩ := both57 2 (rz 2) w HT.out (by omega)
      have R5 := hide h5
      have R7 := hide h7
      have R6 : Hid (∀ w1, Calls Tryd.prog 6 #[.int .i64 2] w1 fun r w' => ∃ ad cap, r = .returned (.slice ad 2 cap) ∧ CR w' ad 2 cap (rz 2) ∧ Gr w1 w') := fun w1 => r6 2 w1 (by omega)
      have R6b : Hid (∀ w1, Calls Tryd.prog 6 #[.int .i64 3] w1 fun r w' => ∃ ad cap, r = .returned (.slice ad 3 cap) ∧ CR w' ad 3 cap (rz 3) ∧ Gr w1 w') := fun w1 => r6 3 w1 (by omega)
      have R9 : Hid (∀ ad cap w1, Gr w w1 → CR w1 ad 3 cap (rz 3) → Calls Tryd.prog 9 #[.slice ad 3 cap] w1 fun r w' => r = .returned (.bool true) ∧ Gr w1 w') := fun ad cap w1 g h => rows9 3 w HT.out (by omega) (by omega) (Or.inr (by decide)) ad cap w1 g h
      have S8 : Hid (∀ a1 c1 a2 c2 w1, CR w1 a1 m c1 ys → CR w1 a2 m c2 ys → Calls Tryd.prog 8 #[.slice a1 m c1, .slice a2 m c2] w1 fun r w' => r = .returned (.bool true) ∧ Gr w1 w') := fun a1 c1 a2 c2 w1 h1 h2 => sameR8 a1 a2 m c1 c2 ys w1 hm h1 h2
      have CP : Hid (∀ i, i < 6 → ∃ v : Int, (wr.alloc (.cells #[.int .i64 (-1), .int .i64 0, .int .i64 1, .int .i64 1, .int .i64 1, .int .i64 2] 3)).cell? ⟨wr.heap.size, i, none⟩ = some (.int .i64 v) ∧ -100000 ≤ v ∧ v ≤ 100000) := by
        have hb := blkN wr (.cells #[.int .i64 (-1), .int .i64 0, .int .i64 1, .int .i64 1, .int .i64 1, .int .i64 2] 3)
        intro i hi
        rcases (show i = 0 ∨ i = 1 ∨ i = 2 ∨ i = 3 ∨ i = 4 ∨ i = 5 by omega) with rfl | rfl | rfl | rfl | rfl | rfl <;> exact ⟨_, by (simp only [World.cell?, hb]; rfl), by omega, by omega⟩
      have GP := hide (hg.out.alloc (.cells #[.int .i64 (-1), .int .i64 0, .int .i64 1, .int .i64 1, .int .i64 1, .int .i64 2] 3))
      clear h5 h7 hm
      go_wp2
      generalize wr.alloc (.cells #[.int .i64 (-1), .int .i64 0, .int .i64 1, .int .i64 1, .int .i64 1, .int .i64 2] 3) = wp at *
      generalize wr.heap.size = bp at *
      go_loopw [4] (fun i wr => ∃ j : Nat, j ≤ 6 ∧ i = .int .i64 (j : Int) ∧ Hid (Gr wp wr)) (fun i _ => 6 - (intOf i).toNat)
      case atStart => exact ⟨0, by omega, rfl, Gr.refl _⟩
      case round =>
        obtain ⟨j, hj, rfl, hgi⟩ := hrel
        by_cases hj6 : j < 6
        · obtain ⟨v, hv, v1, v2⟩ := CP.out j hj6
          replace hv := hgi.out.keep hv
          have hi2 : (j : Int) < 6 := by omega
          have TT := hide (T4.out 1 v v wr.drew (GP.out.trans hgi.out).drew (by omega) (by omega) (by omega) (by omega) (by omega) (by omega))
          go_wp2
          have hS0 : wr.drew.cell? ⟨bp, j, none⟩ = some (.int .i64 v) ∧ Gr wr wr.drew := ⟨hv, (Gr.refl wr).drew⟩
          clear hv
          go_region_held3 (fun w' => w'.cell? ⟨bp, j, none⟩ = some (.int .i64 v) ∧ Gr wr w') (first | (with_reducible assumption) | (apply keep1; (with_reducible assumption); (with_reducible assumption))) (first | (go_at_call 4; (with_reducible refine TT.out.mono ?_); rintro r w2 ⟨rfl, g2⟩))
          go_wp2
          go_roundw
          case rel => exact ⟨j + 1, by omega, by go_num, hgi.out.trans ((Gr.refl wr).drew.trans g2)⟩
          case measure => simp only [intOf]; omega
        · have hj7 : j = 6 := by omega
          have kj : ¬ ((j : Int) < 6) := by omega
          clear hj hj6
          have G := hide (GP.out.trans hgi.out)
          have TL : Hid (∀ w1, Gr w w1 → Calls Tryd.prog 4 #[.int .i64 1, .int .i64 4611686018427387904, .int .i64 4] w1 fun r w' => r = .returned (.bool true) ∧ Gr w1 w') := fun w1 g => T4.out 1 4611686018427387904 4 w1 g (by omega) (by omega) (by omega) (by omega) (by omega) (by omega)
          have tk : True := trivial
          go_wp2_with (first | (go_at_call 6; have _t := tk; (with_reducible refine (R6.out _).mono ?_); rintro r w2 ⟨ad, cap, rfl, C2, g2⟩; clear tk; have G := hide (G.out.trans g2); have tk1 : True := trivial) | (go_at_call 5; (with_reducible refine (R5.out _ _ _ G.out C2).mono ?_); rintro r w3 ⟨ad2, c2, rfl, C3, g3⟩; clear C2; have G := hide (G.out.trans g3)) | (go_at_call 6; have _t := tk1; (with_reducible refine (R6.out _).mono ?_); rintro r w4 ⟨ad4, cap4, rfl, C4, g4⟩; clear tk1; have G := hide (G.out.trans g4); have C3 := C3.gr g4) | (go_at_call 7; (with_reducible refine (R7.out _ _ _ G.out C4).mono ?_); rintro r w5 ⟨ad5, c5, rfl, C5, g5⟩; clear C4; have G := hide (G.out.trans g5); have C3 := C3.gr g5) | (go_at_call 8; (with_reducible refine (S8.out _ _ _ _ _ C3 C5).mono ?_); rintro r w6 ⟨rfl, g6⟩; have G := hide (G.out.trans g6)) | (go_at_call 6; (with_reducible refine (R6b.out _).mono ?_); rintro r w7 ⟨ad7, cap7, rfl, C7, g7⟩; have G := hide (G.out.trans g7)) | (go_at_call 9; (with_reducible refine (R9.out _ _ _ G.out C7).mono ?_); rintro r w8 ⟨rfl, g8⟩; have G := hide (G.out.trans g8)) | (go_at_call 4; (with_reducible refine (TL.out _ G.out).mono ?_); rintro r w9 ⟨rfl, g9⟩; have G := hide (G.out.trans g9)))
          go_roundw
          case rel => exact ⟨⟨2, by omega, by omega, rfl⟩, G.out⟩
          case measure => simp only [intOf]; omega
    · obtain ⟨m, E, ys, hm, h5, h7⟩ := both57 4 (rz 4) w HT.out (by omega)
      have R5 := hide h5
      have R7 := hide h7
      have R6 : Hid (∀ w1, Calls Tryd.prog 6 #[.int .i64 4] w1 fun r w' => ∃ ad cap, r = .returned (.slice ad 4 cap) ∧ CR w' ad 4 cap (rz 4) ∧ Gr w1 w') := fun w1 => r6 4 w1 (by omega)
      have R6b : Hid (∀ w1, Calls Tryd.prog 6 #[.int .i64 5] w1 fun r w' => ∃ ad cap, r = .returned (.slice ad 5 cap) ∧ CR w' ad 5 cap (rz 5) ∧ Gr w1 w') := fun w1 => r6 5 w1 (by omega)
      have R9 : Hid (∀ ad cap w1, Gr w w1 → CR w1 ad 5 cap (rz 5) → Calls Tryd.prog 9 #[.slice ad 5 cap] w1 fun r w' => r = .returned (.bool true) ∧ Gr w1 w') := fun ad cap w1 g h => rows9 5 w HT.out (by omega) (by omega) (Or.inr (by decide)) ad cap w1 g h
      have S8 : Hid (∀ a1 c1 a2 c2 w1, CR w1 a1 m c1 ys → CR w1 a2 m c2 ys → Calls Tryd.prog 8 #[.slice a1 m c1, .slice a2 m c2] w1 fun r w' => r = .returned (.bool true) ∧ Gr w1 w') := fun a1 c1 a2 c2 w1 h1 h2 => sameR8 a1 a2 m c1 c2 ys w1 hm h1 h2
      have CP : Hid (∀ i, i < 6 → ∃ v : Int, (wr.alloc (.cells #[.int .i64 (-1), .int .i64 0, .int .i64 1, .int .i64 2, .int .i64 3, .int .i64 4] 3)).cell? ⟨wr.heap.size, i, none⟩ = some (.int .i64 v) ∧ -100000 ≤ v ∧ v ≤ 100000) := by
        have hb := blkN wr (.cells #[.int .i64 (-1), .int .i64 0, .int .i64 1, .int .i64 2, .int .i64 3, .int .i64 4] 3)
        intro i hi
        rcases (show i = 0 ∨ i = 1 ∨ i = 2 ∨ i = 3 ∨ i = 4 ∨ i = 5 by omega) with rfl | rfl | rfl | rfl | rfl | rfl <;> exact ⟨_, by (simp only [World.cell?, hb]; rfl), by omega, by omega⟩
      have GP := hide (hg.out.alloc (.cells #[.int .i64 (-1), .int .i64 0, .int .i64 1, .int .i64 2, .int .i64 3, .int .i64 4] 3))
      clear h5 h7 hm
      go_wp2
      generalize wr.alloc (.cells #[.int .i64 (-1), .int .i64 0, .int .i64 1, .int .i64 2, .int .i64 3, .int .i64 4] 3) = wp at *
      generalize wr.heap.size = bp at *
      go_loopw [4] (fun i wr => ∃ j : Nat, j ≤ 6 ∧ i = .int .i64 (j : Int) ∧ Hid (Gr wp wr)) (fun i _ => 6 - (intOf i).toNat)
      case atStart => exact ⟨0, by omega, rfl, Gr.refl _⟩
      case round =>
        obtain ⟨j, hj, rfl, hgi⟩ := hrel
        by_cases hj6 : j < 6
        · obtain ⟨v, hv, v1, v2⟩ := CP.out j hj6
          replace hv := hgi.out.keep hv
          have hi2 : (j : Int) < 6 := by omega
          have TT := hide (T4.out 2 v v wr.drew (GP.out.trans hgi.out).drew (by omega) (by omega) (by omega) (by omega) (by omega) (by omega))
          go_wp2
          have hS0 : wr.drew.cell? ⟨bp, j, none⟩ = some (.int .i64 v) ∧ Gr wr wr.drew := ⟨hv, (Gr.refl wr).drew⟩
          clear hv
          go_region_held3 (fun w' => w'.cell? ⟨bp, j, none⟩ = some (.int .i64 v) ∧ Gr wr w') (first | (with_reducible assumption) | (apply keep1; (with_reducible assumption); (with_reducible assumption))) (first | (go_at_call 4; (with_reducible refine TT.out.mono ?_); rintro r w2 ⟨rfl, g2⟩))
          go_wp2
          go_roundw
          case rel => exact ⟨j + 1, by omega, by go_num, hgi.out.trans ((Gr.refl wr).drew.trans g2)⟩
          case measure => simp only [intOf]; omega
        · have hj7 : j = 6 := by omega
          have kj : ¬ ((j : Int) < 6) := by omega
          clear hj hj6
          have G := hide (GP.out.trans hgi.out)
          have TL : Hid (∀ w1, Gr w w1 → Calls Tryd.prog 4 #[.int .i64 2, .int .i64 4611686018427387904, .int .i64 8] w1 fun r w' => r = .returned (.bool true) ∧ Gr w1 w') := fun w1 g => T4.out 2 4611686018427387904 8 w1 g (by omega) (by omega) (by omega) (by omega) (by omega) (by omega)
          have tk : True := trivial
          go_wp2_with (first | (go_at_call 6; have _t := tk; (with_reducible refine (R6.out _).mono ?_); rintro r w2 ⟨ad, cap, rfl, C2, g2⟩; clear tk; have G := hide (G.out.trans g2); have tk1 : True := trivial) | (go_at_call 5; (with_reducible refine (R5.out _ _ _ G.out C2).mono ?_); rintro r w3 ⟨ad2, c2, rfl, C3, g3⟩; clear C2; have G := hide (G.out.trans g3)) | (go_at_call 6; have _t := tk1; (with_reducible refine (R6.out _).mono ?_); rintro r w4 ⟨ad4, cap4, rfl, C4, g4⟩; clear tk1; have G := hide (G.out.trans g4); have C3 := C3.gr g4) | (go_at_call 7; (with_reducible refine (R7.out _ _ _ G.out C4).mono ?_); rintro r w5 ⟨ad5, c5, rfl, C5, g5⟩; clear C4; have G := hide (G.out.trans g5); have C3 := C3.gr g5) | (go_at_call 8; (with_reducible refine (S8.out _ _ _ _ _ C3 C5).mono ?_); rintro r w6 ⟨rfl, g6⟩; have G := hide (G.out.trans g6)) | (go_at_call 6; (with_reducible refine (R6b.out _).mono ?_); rintro r w7 ⟨ad7, cap7, rfl, C7, g7⟩; have G := hide (G.out.trans g7)) | (go_at_call 9; (with_reducible refine (R9.out _ _ _ G.out C7).mono ?_); rintro r w8 ⟨rfl, g8⟩; have G := hide (G.out.trans g8)) | (go_at_call 4; (with_reducible refine (TL.out _ G.out).mono ?_); rintro r w9 ⟨rfl, g9⟩; have G := hide (G.out.trans g9)))
          go_roundw
          case rel => exact ⟨⟨3, by omega, by omega, rfl⟩, G.out⟩
          case measure => simp only [intOf]; omega
    · obtain ⟨m, E, ys, hm, h5, h7⟩ := both57 8 (rz 8) w HT.out (by omega)
      have R5 := hide h5
      have R7 := hide h7
      have R6 : Hid (∀ w1, Calls Tryd.prog 6 #[.int .i64 8] w1 fun r w' => ∃ ad cap, r = .returned (.slice ad 8 cap) ∧ CR w' ad 8 cap (rz 8) ∧ Gr w1 w') := fun w1 => r6 8 w1 (by omega)
      have R6b : Hid (∀ w1, Calls Tryd.prog 6 #[.int .i64 9] w1 fun r w' => ∃ ad cap, r = .returned (.slice ad 9 cap) ∧ CR w' ad 9 cap (rz 9) ∧ Gr w1 w') := fun w1 => r6 9 w1 (by omega)
      have R9 : Hid (∀ ad cap w1, Gr w w1 → CR w1 ad 9 cap (rz 9) → Calls Tryd.prog 9 #[.slice ad 9 cap] w1 fun r w' => r = .returned (.bool true) ∧ Gr w1 w') := fun ad cap w1 g h => rows9 9 w HT.out (by omega) (by omega) (Or.inr (by decide)) ad cap w1 g h
      have S8 : Hid (∀ a1 c1 a2 c2 w1, CR w1 a1 m c1 ys → CR w1 a2 m c2 ys → Calls Tryd.prog 8 #[.slice a1 m c1, .slice a2 m c2] w1 fun r w' => r = .returned (.bool true) ∧ Gr w1 w') := fun a1 c1 a2 c2 w1 h1 h2 => sameR8 a1 a2 m c1 c2 ys w1 hm h1 h2
      have CP : Hid (∀ i, i < 6 → ∃ v : Int, (wr.alloc (.cells #[.int .i64 (-1), .int .i64 0, .int .i64 1, .int .i64 4, .int .i64 7, .int .i64 8] 3)).cell? ⟨wr.heap.size, i, none⟩ = some (.int .i64 v) ∧ -100000 ≤ v ∧ v ≤ 100000) := by
        have hb := blkN wr (.cells #[.int .i64 (-1), .int .i64 0, .int .i64 1, .int .i64 4, .int .i64 7, .int .i64 8] 3)
        intro i hi
        rcases (show i = 0 ∨ i = 1 ∨ i = 2 ∨ i = 3 ∨ i = 4 ∨ i = 5 by omega) with rfl | rfl | rfl | rfl | rfl | rfl <;> exact ⟨_, by (simp only [World.cell?, hb]; rfl), by omega, by omega⟩
      have GP := hide (hg.out.alloc (.cells #[.int .i64 (-1), .int .i64 0, .int .i64 1, .int .i64 4, .int .i64 7, .int .i64 8] 3))
      clear h5 h7 hm
      go_wp2
      generalize wr.alloc (.cells #[.int .i64 (-1), .int .i64 0, .int .i64 1, .int .i64 4, .int .i64 7, .int .i64 8] 3) = wp at *
      generalize wr.heap.size = bp at *
      go_loopw [4] (fun i wr => ∃ j : Nat, j ≤ 6 ∧ i = .int .i64 (j : Int) ∧ Hid (Gr wp wr)) (fun i _ => 6 - (intOf i).toNat)
      case atStart => exact ⟨0, by omega, rfl, Gr.refl _⟩
      case round =>
        obtain ⟨j, hj, rfl, hgi⟩ := hrel
        by_cases hj6 : j < 6
        · obtain ⟨v, hv, v1, v2⟩ := CP.out j hj6
          replace hv := hgi.out.keep hv
          have hi2 : (j : Int) < 6 := by omega
          have TT := hide (T4.out 3 v v wr.drew (GP.out.trans hgi.out).drew (by omega) (by omega) (by omega) (by omega) (by omega) (by omega))
          go_wp2
          have hS0 : wr.drew.cell? ⟨bp, j, none⟩ = some (.int .i64 v) ∧ Gr wr wr.drew := ⟨hv, (Gr.refl wr).drew⟩
          clear hv
          go_region_held3 (fun w' => w'.cell? ⟨bp, j, none⟩ = some (.int .i64 v) ∧ Gr wr w') (first | (with_reducible assumption) | (apply keep1; (with_reducible assumption); (with_reducible assumption))) (first | (go_at_call 4; (with_reducible refine TT.out.mono ?_); rintro r w2 ⟨rfl, g2⟩))
          go_wp2
          go_roundw
          case rel => exact ⟨j + 1, by omega, by go_num, hgi.out.trans ((Gr.refl wr).drew.trans g2)⟩
          case measure => simp only [intOf]; omega
        · have hj7 : j = 6 := by omega
          have kj : ¬ ((j : Int) < 6) := by omega
          clear hj hj6
          have G := hide (GP.out.trans hgi.out)
          have TL : Hid (∀ w1, Gr w w1 → Calls Tryd.prog 4 #[.int .i64 3, .int .i64 4611686018427387904, .int .i64 16] w1 fun r w' => r = .returned (.bool true) ∧ Gr w1 w') := fun w1 g => T4.out 3 4611686018427387904 16 w1 g (by omega) (by omega) (by omega) (by omega) (by omega) (by omega)
          have tk : True := trivial
          go_wp2_with (first | (go_at_call 6; have _t := tk; (with_reducible refine (R6.out _).mono ?_); rintro r w2 ⟨ad, cap, rfl, C2, g2⟩; clear tk; have G := hide (G.out.trans g2); have tk1 : True := trivial) | (go_at_call 5; (with_reducible refine (R5.out _ _ _ G.out C2).mono ?_); rintro r w3 ⟨ad2, c2, rfl, C3, g3⟩; clear C2; have G := hide (G.out.trans g3)) | (go_at_call 6; have _t := tk1; (with_reducible refine (R6.out _).mono ?_); rintro r w4 ⟨ad4, cap4, rfl, C4, g4⟩; clear tk1; have G := hide (G.out.trans g4); have C3 := C3.gr g4) | (go_at_call 7; (with_reducible refine (R7.out _ _ _ G.out C4).mono ?_); rintro r w5 ⟨ad5, c5, rfl, C5, g5⟩; clear C4; have G := hide (G.out.trans g5); have C3 := C3.gr g5) | (go_at_call 8; (with_reducible refine (S8.out _ _ _ _ _ C3 C5).mono ?_); rintro r w6 ⟨rfl, g6⟩; have G := hide (G.out.trans g6)) | (go_at_call 6; (with_reducible refine (R6b.out _).mono ?_); rintro r w7 ⟨ad7, cap7, rfl, C7, g7⟩; have G := hide (G.out.trans g7)) | (go_at_call 9; (with_reducible refine (R9.out _ _ _ G.out C7).mono ?_); rintro r w8 ⟨rfl, g8⟩; have G := hide (G.out.trans g8)) | (go_at_call 4; (with_reducible refine (TL.out _ G.out).mono ?_); rintro r w9 ⟨rfl, g9⟩; have G := hide (G.out.trans g9)))
          go_roundw
          case rel => exact ⟨⟨4, by omega, by omega, rfl⟩, G.out⟩
          case measure => simp only [intOf]; omega
    · obtain ⟨m, E, ys, hm, h5, h7⟩ := both57 16 (rz 16) w HT.out (by omega)
      have R5 := hide h5
      have R7 := hide h7
      have R6 : Hid (∀ w1, Calls Tryd.prog 6 #[.int .i64 16] w1 fun r w' => ∃ ad cap, r = .returned (.slice ad 16 cap) ∧ CR w' ad 16 cap (rz 16) ∧ Gr w1 w') := fun w1 => r6 16 w1 (by omega)
      have R6b : Hid (∀ w1, Calls Tryd.prog 6 #[.int .i64 17] w1 fun r w' => ∃ ad cap, r = .returned (.slice ad 17 cap) ∧ CR w' ad 17 cap (rz 17) ∧ Gr w1 w') := fun w1 => r6 17 w1 (by omega)
      have R9 : Hid (∀ ad cap w1, Gr w w1 → CR w1 ad 17 cap (rz 17) → Calls Tryd.prog 9 #[.slice ad 17 cap] w1 fun r w' => r = .returned (.bool true) ∧ Gr w1 w') := fun ad cap w1 g h => rows9 17 w HT.out (by omega) (by omega) (Or.inr (by decide)) ad cap w1 g h
      have S8 : Hid (∀ a1 c1 a2 c2 w1, CR w1 a1 m c1 ys → CR w1 a2 m c2 ys → Calls Tryd.prog 8 #[.slice a1 m c1, .slice a2 m c2] w1 fun r w' => r = .returned (.bool true) ∧ Gr w1 w') := fun a1 c1 a2 c2 w1 h1 h2 => sameR8 a1 a2 m c1 c2 ys w1 hm h1 h2
      have CP : Hid (∀ i, i < 6 → ∃ v : Int, (wr.alloc (.cells #[.int .i64 (-1), .int .i64 0, .int .i64 1, .int .i64 8, .int .i64 15, .int .i64 16] 3)).cell? ⟨wr.heap.size, i, none⟩ = some (.int .i64 v) ∧ -100000 ≤ v ∧ v ≤ 100000) := by
        have hb := blkN wr (.cells #[.int .i64 (-1), .int .i64 0, .int .i64 1, .int .i64 8, .int .i64 15, .int .i64 16] 3)
        intro i hi
        rcases (show i = 0 ∨ i = 1 ∨ i = 2 ∨ i = 3 ∨ i = 4 ∨ i = 5 by omega) with rfl | rfl | rfl | rfl | rfl | rfl <;> exact ⟨_, by (simp only [World.cell?, hb]; rfl), by omega, by omega⟩
      have GP := hide (hg.out.alloc (.cells #[.int .i64 (-1), .int .i64 0, .int .i64 1, .int .i64 8, .int .i64 15, .int .i64 16] 3))
      clear h5 h7 hm
      go_wp2
      generalize wr.alloc (.cells #[.int .i64 (-1), .int .i64 0, .int .i64 1, .int .i64 8, .int .i64 15, .int .i64 16] 3) = wp at *
      generalize wr.heap.size = bp at *
      go_loopw [4] (fun i wr => ∃ j : Nat, j ≤ 6 ∧ i = .int .i64 (j : Int) ∧ Hid (Gr wp wr)) (fun i _ => 6 - (intOf i).toNat)
      case atStart => exact ⟨0, by omega, rfl, Gr.refl _⟩
      case round =>
        obtain ⟨j, hj, rfl, hgi⟩ := hrel
        by_cases hj6 : j < 6
        · obtain ⟨v, hv, v1, v2⟩ := CP.out j hj6
          replace hv := hgi.out.keep hv
          have hi2 : (j : Int) < 6 := by omega
          have TT := hide (T4.out 4 v v wr.drew (GP.out.trans hgi.out).drew (by omega) (by omega) (by omega) (by omega) (by omega) (by omega))
          go_wp2
          have hS0 : wr.drew.cell? ⟨bp, j, none⟩ = some (.int .i64 v) ∧ Gr wr wr.drew := ⟨hv, (Gr.refl wr).drew⟩
          clear hv
          go_region_held3 (fun w' => w'.cell? ⟨bp, j, none⟩ = some (.int .i64 v) ∧ Gr wr w') (first | (with_reducible assumption) | (apply keep1; (with_reducible assumption); (with_reducible assumption))) (first | (go_at_call 4; (with_reducible refine TT.out.mono ?_); rintro r w2 ⟨rfl, g2⟩))
          go_wp2
          go_roundw
          case rel => exact ⟨j + 1, by omega, by go_num, hgi.out.trans ((Gr.refl wr).drew.trans g2)⟩
          case measure => simp only [intOf]; omega
        · have hj7 : j = 6 := by omega
          have kj : ¬ ((j : Int) < 6) := by omega
          clear hj hj6
          have G := hide (GP.out.trans hgi.out)
          have TL : Hid (∀ w1, Gr w w1 → Calls Tryd.prog 4 #[.int .i64 4, .int .i64 4611686018427387904, .int .i64 32] w1 fun r w' => r = .returned (.bool true) ∧ Gr w1 w') := fun w1 g => T4.out 4 4611686018427387904 32 w1 g (by omega) (by omega) (by omega) (by omega) (by omega) (by omega)
          have tk : True := trivial
          go_wp2_with (first | (go_at_call 6; have _t := tk; (with_reducible refine (R6.out _).mono ?_); rintro r w2 ⟨ad, cap, rfl, C2, g2⟩; clear tk; have G := hide (G.out.trans g2); have tk1 : True := trivial) | (go_at_call 5; (with_reducible refine (R5.out _ _ _ G.out C2).mono ?_); rintro r w3 ⟨ad2, c2, rfl, C3, g3⟩; clear C2; have G := hide (G.out.trans g3)) | (go_at_call 6; have _t := tk1; (with_reducible refine (R6.out _).mono ?_); rintro r w4 ⟨ad4, cap4, rfl, C4, g4⟩; clear tk1; have G := hide (G.out.trans g4); have C3 := C3.gr g4) | (go_at_call 7; (with_reducible refine (R7.out _ _ _ G.out C4).mono ?_); rintro r w5 ⟨ad5, c5, rfl, C5, g5⟩; clear C4; have G := hide (G.out.trans g5); have C3 := C3.gr g5) | (go_at_call 8; (with_reducible refine (S8.out _ _ _ _ _ C3 C5).mono ?_); rintro r w6 ⟨rfl, g6⟩; have G := hide (G.out.trans g6)) | (go_at_call 6; (with_reducible refine (R6b.out _).mono ?_); rintro r w7 ⟨ad7, cap7, rfl, C7, g7⟩; have G := hide (G.out.trans g7)) | (go_at_call 9; (with_reducible refine (R9.out _ _ _ G.out C7).mono ?_); rintro r w8 ⟨rfl, g8⟩; have G := hide (G.out.trans g8)) | (go_at_call 4; (with_reducible refine (TL.out _ G.out).mono ?_); rintro r w9 ⟨rfl, g9⟩; have G := hide (G.out.trans g9)))
          go_roundw
          case rel => exact ⟨⟨5, by omega, by omega, rfl⟩, G.out⟩
          case measure => simp only [intOf]; omega
    · obtain ⟨m, E, ys, hm, h5, h7⟩ := both57 32 (rz 32) w HT.out (by omega)
      have R5 := hide h5
      have R7 := hide h7
      have R6 : Hid (∀ w1, Calls Tryd.prog 6 #[.int .i64 32] w1 fun r w' => ∃ ad cap, r = .returned (.slice ad 32 cap) ∧ CR w' ad 32 cap (rz 32) ∧ Gr w1 w') := fun w1 => r6 32 w1 (by omega)
      have R6b : Hid (∀ w1, Calls Tryd.prog 6 #[.int .i64 33] w1 fun r w' => ∃ ad cap, r = .returned (.slice ad 33 cap) ∧ CR w' ad 33 cap (rz 33) ∧ Gr w1 w') := fun w1 => r6 33 w1 (by omega)
      have R9 : Hid (∀ ad cap w1, Gr w w1 → CR w1 ad 33 cap (rz 33) → Calls Tryd.prog 9 #[.slice ad 33 cap] w1 fun r w' => r = .returned (.bool true) ∧ Gr w1 w') := fun ad cap w1 g h => rows9 33 w HT.out (by omega) (by omega) (Or.inr (by decide)) ad cap w1 g h
      have S8 : Hid (∀ a1 c1 a2 c2 w1, CR w1 a1 m c1 ys → CR w1 a2 m c2 ys → Calls Tryd.prog 8 #[.slice a1 m c1, .slice a2 m c2] w1 fun r w' => r = .returned (.bool true) ∧ Gr w1 w') := fun a1 c1 a2 c2 w1 h1 h2 => sameR8 a1 a2 m c1 c2 ys w1 hm h1 h2
      have CP : Hid (∀ i, i < 6 → ∃ v : Int, (wr.alloc (.cells #[.int .i64 (-1), .int .i64 0, .int .i64 1, .int .i64 16, .int .i64 31, .int .i64 32] 3)).cell? ⟨wr.heap.size, i, none⟩ = some (.int .i64 v) ∧ -100000 ≤ v ∧ v ≤ 100000) := by
        have hb := blkN wr (.cells #[.int .i64 (-1), .int .i64 0, .int .i64 1, .int .i64 16, .int .i64 31, .int .i64 32] 3)
        intro i hi
        rcases (show i = 0 ∨ i = 1 ∨ i = 2 ∨ i = 3 ∨ i = 4 ∨ i = 5 by omega) with rfl | rfl | rfl | rfl | rfl | rfl <;> exact ⟨_, by (simp only [World.cell?, hb]; rfl), by omega, by omega⟩
      have GP := hide (hg.out.alloc (.cells #[.int .i64 (-1), .int .i64 0, .int .i64 1, .int .i64 16, .int .i64 31, .int .i64 32] 3))
      clear h5 h7 hm
      go_wp2
      generalize wr.alloc (.cells #[.int .i64 (-1), .int .i64 0, .int .i64 1, .int .i64 16, .int .i64 31, .int .i64 32] 3) = wp at *
      generalize wr.heap.size = bp at *
      go_loopw [4] (fun i wr => ∃ j : Nat, j ≤ 6 ∧ i = .int .i64 (j : Int) ∧ Hid (Gr wp wr)) (fun i _ => 6 - (intOf i).toNat)
      case atStart => exact ⟨0, by omega, rfl, Gr.refl _⟩
      case round =>
        obtain ⟨j, hj, rfl, hgi⟩ := hrel
        by_cases hj6 : j < 6
        · obtain ⟨v, hv, v1, v2⟩ := CP.out j hj6
          replace hv := hgi.out.keep hv
          have hi2 : (j : Int) < 6 := by omega
          have TT := hide (T4.out 5 v v wr.drew (GP.out.trans hgi.out).drew (by omega) (by omega) (by omega) (by omega) (by omega) (by omega))
          go_wp2
          have hS0 : wr.drew.cell? ⟨bp, j, none⟩ = some (.int .i64 v) ∧ Gr wr wr.drew := ⟨hv, (Gr.refl wr).drew⟩
          clear hv
          go_region_held3 (fun w' => w'.cell? ⟨bp, j, none⟩ = some (.int .i64 v) ∧ Gr wr w') (first | (with_reducible assumption) | (apply keep1; (with_reducible assumption); (with_reducible assumption))) (first | (go_at_call 4; (with_reducible refine TT.out.mono ?_); rintro r w2 ⟨rfl, g2⟩))
          go_wp2
          go_roundw
          case rel => exact ⟨j + 1, by omega, by go_num, hgi.out.trans ((Gr.refl wr).drew.trans g2)⟩
          case measure => simp only [intOf]; omega
        · have hj7 : j = 6 := by omega
          have kj : ¬ ((j : Int) < 6) := by omega
          clear hj hj6
          have G := hide (GP.out.trans hgi.out)
          have TL : Hid (∀ w1, Gr w w1 → Calls Tryd.prog 4 #[.int .i64 5, .int .i64 4611686018427387904, .int .i64 64] w1 fun r w' => r = .returned (.bool true) ∧ Gr w1 w') := fun w1 g => T4.out 5 4611686018427387904 64 w1 g (by omega) (by omega) (by omega) (by omega) (by omega) (by omega)
          have tk : True := trivial
          go_wp2_with (first | (go_at_call 6; have _t := tk; (with_reducible refine (R6.out _).mono ?_); rintro r w2 ⟨ad, cap, rfl, C2, g2⟩; clear tk; have G := hide (G.out.trans g2); have tk1 : True := trivial) | (go_at_call 5; (with_reducible refine (R5.out _ _ _ G.out C2).mono ?_); rintro r w3 ⟨ad2, c2, rfl, C3, g3⟩; clear C2; have G := hide (G.out.trans g3)) | (go_at_call 6; have _t := tk1; (with_reducible refine (R6.out _).mono ?_); rintro r w4 ⟨ad4, cap4, rfl, C4, g4⟩; clear tk1; have G := hide (G.out.trans g4); have C3 := C3.gr g4) | (go_at_call 7; (with_reducible refine (R7.out _ _ _ G.out C4).mono ?_); rintro r w5 ⟨ad5, c5, rfl, C5, g5⟩; clear C4; have G := hide (G.out.trans g5); have C3 := C3.gr g5) | (go_at_call 8; (with_reducible refine (S8.out _ _ _ _ _ C3 C5).mono ?_); rintro r w6 ⟨rfl, g6⟩; have G := hide (G.out.trans g6)) | (go_at_call 6; (with_reducible refine (R6b.out _).mono ?_); rintro r w7 ⟨ad7, cap7, rfl, C7, g7⟩; have G := hide (G.out.trans g7)) | (go_at_call 9; (with_reducible refine (R9.out _ _ _ G.out C7).mono ?_); rintro r w8 ⟨rfl, g8⟩; have G := hide (G.out.trans g8)) | (go_at_call 4; (with_reducible refine (TL.out _ G.out).mono ?_); rintro r w9 ⟨rfl, g9⟩; have G := hide (G.out.trans g9)))
          go_roundw
          case rel => exact ⟨⟨6, by omega, by omega, rfl⟩, G.out⟩
          case measure => simp only [intOf]; omega
    · obtain ⟨m, E, ys, hm, h5, h7⟩ := both57 64 (rz 64) w HT.out (by omega)
      have R5 := hide h5
      have R7 := hide h7
      have R6 : Hid (∀ w1, Calls Tryd.prog 6 #[.int .i64 64] w1 fun r w' => ∃ ad cap, r = .returned (.slice ad 64 cap) ∧ CR w' ad 64 cap (rz 64) ∧ Gr w1 w') := fun w1 => r6 64 w1 (by omega)
      have R6b : Hid (∀ w1, Calls Tryd.prog 6 #[.int .i64 65] w1 fun r w' => ∃ ad cap, r = .returned (.slice ad 65 cap) ∧ CR w' ad 65 cap (rz 65) ∧ Gr w1 w') := fun w1 => r6 65 w1 (by omega)
      have R9 : Hid (∀ ad cap w1, Gr w w1 → CR w1 ad 65 cap (rz 65) → Calls Tryd.prog 9 #[.slice ad 65 cap] w1 fun r w' => r = .returned (.bool true) ∧ Gr w1 w') := fun ad cap w1 g h => rows9 65 w HT.out (by omega) (by omega) (Or.inr (by decide)) ad cap w1 g h
      have S8 : Hid (∀ a1 c1 a2 c2 w1, CR w1 a1 m c1 ys → CR w1 a2 m c2 ys → Calls Tryd.prog 8 #[.slice a1 m c1, .slice a2 m c2] w1 fun r w' => r = .returned (.bool true) ∧ Gr w1 w') := fun a1 c1 a2 c2 w1 h1 h2 => sameR8 a1 a2 m c1 c2 ys w1 hm h1 h2
      have CP : Hid (∀ i, i < 6 → ∃ v : Int, (wr.alloc (.cells #[.int .i64 (-1), .int .i64 0, .int .i64 1, .int .i64 32, .int .i64 63, .int .i64 64] 3)).cell? ⟨wr.heap.size, i, none⟩ = some (.int .i64 v) ∧ -100000 ≤ v ∧ v ≤ 100000) := by
        have hb := blkN wr (.cells #[.int .i64 (-1), .int .i64 0, .int .i64 1, .int .i64 32, .int .i64 63, .int .i64 64] 3)
        intro i hi
        rcases (show i = 0 ∨ i = 1 ∨ i = 2 ∨ i = 3 ∨ i = 4 ∨ i = 5 by omega) with rfl | rfl | rfl | rfl | rfl | rfl <;> exact ⟨_, by (simp only [World.cell?, hb]; rfl), by omega, by omega⟩
      have GP := hide (hg.out.alloc (.cells #[.int .i64 (-1), .int .i64 0, .int .i64 1, .int .i64 32, .int .i64 63, .int .i64 64] 3))
      clear h5 h7 hm
      go_wp2
      generalize wr.alloc (.cells #[.int .i64 (-1), .int .i64 0, .int .i64 1, .int .i64 32, .int .i64 63, .int .i64 64] 3) = wp at *
      generalize wr.heap.size = bp at *
      go_loopw [4] (fun i wr => ∃ j : Nat, j ≤ 6 ∧ i = .int .i64 (j : Int) ∧ Hid (Gr wp wr)) (fun i _ => 6 - (intOf i).toNat)
      case atStart => exact ⟨0, by omega, rfl, Gr.refl _⟩
      case round =>
        obtain ⟨j, hj, rfl, hgi⟩ := hrel
        by_cases hj6 : j < 6
        · obtain ⟨v, hv, v1, v2⟩ := CP.out j hj6
          replace hv := hgi.out.keep hv
          have hi2 : (j : Int) < 6 := by omega
          have TT := hide (T4.out 6 v v wr.drew (GP.out.trans hgi.out).drew (by omega) (by omega) (by omega) (by omega) (by omega) (by omega))
          go_wp2
          have hS0 : wr.drew.cell? ⟨bp, j, none⟩ = some (.int .i64 v) ∧ Gr wr wr.drew := ⟨hv, (Gr.refl wr).drew⟩
          clear hv
          go_region_held3 (fun w' => w'.cell? ⟨bp, j, none⟩ = some (.int .i64 v) ∧ Gr wr w') (first | (with_reducible assumption) | (apply keep1; (with_reducible assumption); (with_reducible assumption))) (first | (go_at_call 4; (with_reducible refine TT.out.mono ?_); rintro r w2 ⟨rfl, g2⟩))
          go_wp2
          go_roundw
          case rel => exact ⟨j + 1, by omega, by go_num, hgi.out.trans ((Gr.refl wr).drew.trans g2)⟩
          case measure => simp only [intOf]; omega
        · have hj7 : j = 6 := by omega
          have kj : ¬ ((j : Int) < 6) := by omega
          clear hj hj6
          have G := hide (GP.out.trans hgi.out)
          have TL : Hid (∀ w1, Gr w w1 → Calls Tryd.prog 4 #[.int .i64 6, .int .i64 4611686018427387904, .int .i64 128] w1 fun r w' => r = .returned (.bool true) ∧ Gr w1 w') := fun w1 g => T4.out 6 4611686018427387904 128 w1 g (by omega) (by omega) (by omega) (by omega) (by omega) (by omega)
          have tk : True := trivial
          go_wp2_with (first | (go_at_call 6; have _t := tk; (with_reducible refine (R6.out _).mono ?_); rintro r w2 ⟨ad, cap, rfl, C2, g2⟩; clear tk; have G := hide (G.out.trans g2); have tk1 : True := trivial) | (go_at_call 5; (with_reducible refine (R5.out _ _ _ G.out C2).mono ?_); rintro r w3 ⟨ad2, c2, rfl, C3, g3⟩; clear C2; have G := hide (G.out.trans g3)) | (go_at_call 6; have _t := tk1; (with_reducible refine (R6.out _).mono ?_); rintro r w4 ⟨ad4, cap4, rfl, C4, g4⟩; clear tk1; have G := hide (G.out.trans g4); have C3 := C3.gr g4) | (go_at_call 7; (with_reducible refine (R7.out _ _ _ G.out C4).mono ?_); rintro r w5 ⟨ad5, c5, rfl, C5, g5⟩; clear C4; have G := hide (G.out.trans g5); have C3 := C3.gr g5) | (go_at_call 8; (with_reducible refine (S8.out _ _ _ _ _ C3 C5).mono ?_); rintro r w6 ⟨rfl, g6⟩; have G := hide (G.out.trans g6)) | (go_at_call 6; (with_reducible refine (R6b.out _).mono ?_); rintro r w7 ⟨ad7, cap7, rfl, C7, g7⟩; have G := hide (G.out.trans g7)) | (go_at_call 9; (with_reducible refine (R9.out _ _ _ G.out C7).mono ?_); rintro r w8 ⟨rfl, g8⟩; have G := hide (G.out.trans g8)) | (go_at_call 4; (with_reducible refine (TL.out _ G.out).mono ?_); rintro r w9 ⟨rfl, g9⟩; have G := hide (G.out.trans g9)))
          go_roundw
          case rel => exact ⟨⟨7, by omega, by omega, rfl⟩, G.out⟩
          case measure => simp only [intOf]; omega
    · obtain ⟨m, E, ys, hm, h5, h7⟩ := both57 128 (rz 128) w HT.out (by omega)
      have R5 := hide h5
      have R7 := hide h7
      have R6 : Hid (∀ w1, Calls Tryd.prog 6 #[.int .i64 128] w1 fun r w' => ∃ ad cap, r = .returned (.slice ad 128 cap) ∧ CR w' ad 128 cap (rz 128) ∧ Gr w1 w') := fun w1 => r6 128 w1 (by omega)
      have R6b : Hid (∀ w1, Calls Tryd.prog 6 #[.int .i64 129] w1 fun r w' => ∃ ad cap, r = .returned (.slice ad 129 cap) ∧ CR w' ad 129 cap (rz 129) ∧ Gr w1 w') := fun w1 => r6 129 w1 (by omega)
      have R9 : Hid (∀ ad cap w1, Gr w w1 → CR w1 ad 129 cap (rz 129) → Calls Tryd.prog 9 #[.slice ad 129 cap] w1 fun r w' => r = .returned (.bool true) ∧ Gr w1 w') := fun ad cap w1 g h => rows9 129 w HT.out (by omega) (by omega) (Or.inr (by decide)) ad cap w1 g h
      have S8 : Hid (∀ a1 c1 a2 c2 w1, CR w1 a1 m c1 ys → CR w1 a2 m c2 ys → Calls Tryd.prog 8 #[.slice a1 m c1, .slice a2 m c2] w1 fun r w' => r = .returned (.bool true) ∧ Gr w1 w') := fun a1 c1 a2 c2 w1 h1 h2 => sameR8 a1 a2 m c1 c2 ys w1 hm h1 h2
      have CP : Hid (∀ i, i < 6 → ∃ v : Int, (wr.alloc (.cells #[.int .i64 (-1), .int .i64 0, .int .i64 1, .int .i64 64, .int .i64 127, .int .i64 128] 3)).cell? ⟨wr.heap.size, i, none⟩ = some (.int .i64 v) ∧ -100000 ≤ v ∧ v ≤ 100000) := by
        have hb := blkN wr (.cells #[.int .i64 (-1), .int .i64 0, .int .i64 1, .int .i64 64, .int .i64 127, .int .i64 128] 3)
        intro i hi
        rcases (show i = 0 ∨ i = 1 ∨ i = 2 ∨ i = 3 ∨ i = 4 ∨ i = 5 by omega) with rfl | rfl | rfl | rfl | rfl | rfl <;> exact ⟨_, by (simp only [World.cell?, hb]; rfl), by omega, by omega⟩
      have GP := hide (hg.out.alloc (.cells #[.int .i64 (-1), .int .i64 0, .int .i64 1, .int .i64 64, .int .i64 127, .int .i64 128] 3))
      clear h5 h7 hm
      go_wp2
      generalize wr.alloc (.cells #[.int .i64 (-1), .int .i64 0, .int .i64 1, .int .i64 64, .int .i64 127, .int .i64 128] 3) = wp at *
      generalize wr.heap.size = bp at *
      go_loopw [4] (fun i wr => ∃ j : Nat, j ≤ 6 ∧ i = .int .i64 (j : Int) ∧ Hid (Gr wp wr)) (fun i _ => 6 - (intOf i).toNat)
      case atStart => exact ⟨0, by omega, rfl, Gr.refl _⟩
      case round =>
        obtain ⟨j, hj, rfl, hgi⟩ := hrel
        by_cases hj6 : j < 6
        · obtain ⟨v, hv, v1, v2⟩ := CP.out j hj6
          replace hv := hgi.out.keep hv
          have hi2 : (j : Int) < 6 := by omega
          have TT := hide (T4.out 7 v v wr.drew (GP.out.trans hgi.out).drew (by omega) (by omega) (by omega) (by omega) (by omega) (by omega))
          go_wp2
          have hS0 : wr.drew.cell? ⟨bp, j, none⟩ = some (.int .i64 v) ∧ Gr wr wr.drew := ⟨hv, (Gr.refl wr).drew⟩
          clear hv
          go_region_held3 (fun w' => w'.cell? ⟨bp, j, none⟩ = some (.int .i64 v) ∧ Gr wr w') (first | (with_reducible assumption) | (apply keep1; (with_reducible assumption); (with_reducible assumption))) (first | (go_at_call 4; (with_reducible refine TT.out.mono ?_); rintro r w2 ⟨rfl, g2⟩))
          go_wp2
          go_roundw
          case rel => exact ⟨j + 1, by omega, by go_num, hgi.out.trans ((Gr.refl wr).drew.trans g2)⟩
          case measure => simp only [intOf]; omega
        · have hj7 : j = 6 := by omega
          have kj : ¬ ((j : Int) < 6) := by omega
          clear hj hj6
          have G := hide (GP.out.trans hgi.out)
          have TL : Hid (∀ w1, Gr w w1 → Calls Tryd.prog 4 #[.int .i64 7, .int .i64 4611686018427387904, .int .i64 256] w1 fun r w' => r = .returned (.bool true) ∧ Gr w1 w') := fun w1 g => T4.out 7 4611686018427387904 256 w1 g (by omega) (by omega) (by omega) (by omega) (by omega) (by omega)
          have tk : True := trivial
          go_wp2_with (first | (go_at_call 6; have _t := tk; (with_reducible refine (R6.out _).mono ?_); rintro r w2 ⟨ad, cap, rfl, C2, g2⟩; clear tk; have G := hide (G.out.trans g2); have tk1 : True := trivial) | (go_at_call 5; (with_reducible refine (R5.out _ _ _ G.out C2).mono ?_); rintro r w3 ⟨ad2, c2, rfl, C3, g3⟩; clear C2; have G := hide (G.out.trans g3)) | (go_at_call 6; have _t := tk1; (with_reducible refine (R6.out _).mono ?_); rintro r w4 ⟨ad4, cap4, rfl, C4, g4⟩; clear tk1; have G := hide (G.out.trans g4); have C3 := C3.gr g4) | (go_at_call 7; (with_reducible refine (R7.out _ _ _ G.out C4).mono ?_); rintro r w5 ⟨ad5, c5, rfl, C5, g5⟩; clear C4; have G := hide (G.out.trans g5); have C3 := C3.gr g5) | (go_at_call 8; (with_reducible refine (S8.out _ _ _ _ _ C3 C5).mono ?_); rintro r w6 ⟨rfl, g6⟩; have G := hide (G.out.trans g6)) | (go_at_call 6; (with_reducible refine (R6b.out _).mono ?_); rintro r w7 ⟨ad7, cap7, rfl, C7, g7⟩; have G := hide (G.out.trans g7)) | (go_at_call 9; (with_reducible refine (R9.out _ _ _ G.out C7).mono ?_); rintro r w8 ⟨rfl, g8⟩; have G := hide (G.out.trans g8)) | (go_at_call 4; (with_reducible refine (TL.out _ G.out).mono ?_); rintro r w9 ⟨rfl, g9⟩; have G := hide (G.out.trans g9)))
          go_roundw
          case rel => exact ⟨⟨8, by omega, by omega, rfl⟩, G.out⟩
          case measure => simp only [intOf]; omega
    · obtain ⟨m, E, ys, hm, h5, h7⟩ := both57 256 (rz 256) w HT.out (by omega)
      have R5 := hide h5
      have R7 := hide h7
      have R6 : Hid (∀ w1, Calls Tryd.prog 6 #[.int .i64 256] w1 fun r w' => ∃ ad cap, r = .returned (.slice ad 256 cap) ∧ CR w' ad 256 cap (rz 256) ∧ Gr w1 w') := fun w1 => r6 256 w1 (by omega)
      have R6b : Hid (∀ w1, Calls Tryd.prog 6 #[.int .i64 257] w1 fun r w' => ∃ ad cap, r = .returned (.slice ad 257 cap) ∧ CR w' ad 257 cap (rz 257) ∧ Gr w1 w') := fun w1 => r6 257 w1 (by omega)
      have R9 : Hid (∀ ad cap w1, Gr w w1 → CR w1 ad 257 cap (rz 257) → Calls Tryd.prog 9 #[.slice ad 257 cap] w1 fun r w' => r = .returned (.bool true) ∧ Gr w1 w') := fun ad cap w1 g h => rows9 257 w HT.out (by omega) (by omega) (Or.inr (by decide)) ad cap w1 g h
      have S8 : Hid (∀ a1 c1 a2 c2 w1, CR w1 a1 m c1 ys → CR w1 a2 m c2 ys → Calls Tryd.prog 8 #[.slice a1 m c1, .slice a2 m c2] w1 fun r w' => r = .returned (.bool true) ∧ Gr w1 w') := fun a1 c1 a2 c2 w1 h1 h2 => sameR8 a1 a2 m c1 c2 ys w1 hm h1 h2
      have CP : Hid (∀ i, i < 6 → ∃ v : Int, (wr.alloc (.cells #[.int .i64 (-1), .int .i64 0, .int .i64 1, .int .i64 128, .int .i64 255, .int .i64 256] 3)).cell? ⟨wr.heap.size, i, none⟩ = some (.int .i64 v) ∧ -100000 ≤ v ∧ v ≤ 100000) := by
        have hb := blkN wr (.cells #[.int .i64 (-1), .int .i64 0, .int .i64 1, .int .i64 128, .int .i64 255, .int .i64 256] 3)
        intro i hi
        rcases (show i = 0 ∨ i = 1 ∨ i = 2 ∨ i = 3 ∨ i = 4 ∨ i = 5 by omega) with rfl | rfl | rfl | rfl | rfl | rfl <;> exact ⟨_, by (simp only [World.cell?, hb]; rfl), by omega, by omega⟩
      have GP := hide (hg.out.alloc (.cells #[.int .i64 (-1), .int .i64 0, .int .i64 1, .int .i64 128, .int .i64 255, .int .i64 256] 3))
      clear h5 h7 hm
      go_wp2
      generalize wr.alloc (.cells #[.int .i64 (-1), .int .i64 0, .int .i64 1, .int .i64 128, .int .i64 255, .int .i64 256] 3) = wp at *
      generalize wr.heap.size = bp at *
      go_loopw [4] (fun i wr => ∃ j : Nat, j ≤ 6 ∧ i = .int .i64 (j : Int) ∧ Hid (Gr wp wr)) (fun i _ => 6 - (intOf i).toNat)
      case atStart => exact ⟨0, by omega, rfl, Gr.refl _⟩
      case round =>
        obtain ⟨j, hj, rfl, hgi⟩ := hrel
        by_cases hj6 : j < 6
        · obtain ⟨v, hv, v1, v2⟩ := CP.out j hj6
          replace hv := hgi.out.keep hv
          have hi2 : (j : Int) < 6 := by omega
          have TT := hide (T4.out 8 v v wr.drew (GP.out.trans hgi.out).drew (by omega) (by omega) (by omega) (by omega) (by omega) (by omega))
          go_wp2
          have hS0 : wr.drew.cell? ⟨bp, j, none⟩ = some (.int .i64 v) ∧ Gr wr wr.drew := ⟨hv, (Gr.refl wr).drew⟩
          clear hv
          go_region_held3 (fun w' => w'.cell? ⟨bp, j, none⟩ = some (.int .i64 v) ∧ Gr wr w') (first | (with_reducible assumption) | (apply keep1; (with_reducible assumption); (with_reducible assumption))) (first | (go_at_call 4; (with_reducible refine TT.out.mono ?_); rintro r w2 ⟨rfl, g2⟩))
          go_wp2
          go_roundw
          case rel => exact ⟨j + 1, by omega, by go_num, hgi.out.trans ((Gr.refl wr).drew.trans g2)⟩
          case measure => simp only [intOf]; omega
        · have hj7 : j = 6 := by omega
          have kj : ¬ ((j : Int) < 6) := by omega
          clear hj hj6
          have G := hide (GP.out.trans hgi.out)
          have TL : Hid (∀ w1, Gr w w1 → Calls Tryd.prog 4 #[.int .i64 8, .int .i64 4611686018427387904, .int .i64 512] w1 fun r w' => r = .returned (.bool true) ∧ Gr w1 w') := fun w1 g => T4.out 8 4611686018427387904 512 w1 g (by omega) (by omega) (by omega) (by omega) (by omega) (by omega)
          have tk : True := trivial
          go_wp2_with (first | (go_at_call 6; have _t := tk; (with_reducible refine (R6.out _).mono ?_); rintro r w2 ⟨ad, cap, rfl, C2, g2⟩; clear tk; have G := hide (G.out.trans g2); have tk1 : True := trivial) | (go_at_call 5; (with_reducible refine (R5.out _ _ _ G.out C2).mono ?_); rintro r w3 ⟨ad2, c2, rfl, C3, g3⟩; clear C2; have G := hide (G.out.trans g3)) | (go_at_call 6; have _t := tk1; (with_reducible refine (R6.out _).mono ?_); rintro r w4 ⟨ad4, cap4, rfl, C4, g4⟩; clear tk1; have G := hide (G.out.trans g4); have C3 := C3.gr g4) | (go_at_call 7; (with_reducible refine (R7.out _ _ _ G.out C4).mono ?_); rintro r w5 ⟨ad5, c5, rfl, C5, g5⟩; clear C4; have G := hide (G.out.trans g5); have C3 := C3.gr g5) | (go_at_call 8; (with_reducible refine (S8.out _ _ _ _ _ C3 C5).mono ?_); rintro r w6 ⟨rfl, g6⟩; have G := hide (G.out.trans g6)) | (go_at_call 6; (with_reducible refine (R6b.out _).mono ?_); rintro r w7 ⟨ad7, cap7, rfl, C7, g7⟩; have G := hide (G.out.trans g7)) | (go_at_call 9; (with_reducible refine (R9.out _ _ _ G.out C7).mono ?_); rintro r w8 ⟨rfl, g8⟩; have G := hide (G.out.trans g8)) | (go_at_call 4; (with_reducible refine (TL.out _ G.out).mono ?_); rintro r w9 ⟨rfl, g9⟩; have G := hide (G.out.trans g9)))
          go_roundw
          case rel => exact ⟨⟨9, by omega, by omega, rfl⟩, G.out⟩
          case measure => simp only [intOf]; omega
    · obtain ⟨m, E, ys, hm, h5, h7⟩ := both57 512 (rz 512) w HT.out (by omega)
      have R5 := hide h5
      have R7 := hide h7
      have R6 : Hid (∀ w1, Calls Tryd.prog 6 #[.int .i64 512] w1 fun r w' => ∃ ad cap, r = .returned (.slice ad 512 cap) ∧ CR w' ad 512 cap (rz 512) ∧ Gr w1 w') := fun w1 => r6 512 w1 (by omega)
      have R6b : Hid (∀ w1, Calls Tryd.prog 6 #[.int .i64 513] w1 fun r w' => ∃ ad cap, r = .returned (.slice ad 513 cap) ∧ CR w' ad 513 cap (rz 513) ∧ Gr w1 w') := fun w1 => r6 513 w1 (by omega)
      have R9 : Hid (∀ ad cap w1, Gr w w1 → CR w1 ad 513 cap (rz 513) → Calls Tryd.prog 9 #[.slice ad 513 cap] w1 fun r w' => r = .returned (.bool true) ∧ Gr w1 w') := fun ad cap w1 g h => rows9 513 w HT.out (by omega) (by omega) (Or.inr (by decide)) ad cap w1 g h
      have S8 : Hid (∀ a1 c1 a2 c2 w1, CR w1 a1 m c1 ys → CR w1 a2 m c2 ys → Calls Tryd.prog 8 #[.slice a1 m c1, .slice a2 m c2] w1 fun r w' => r = .returned (.bool true) ∧ Gr w1 w') := fun a1 c1 a2 c2 w1 h1 h2 => sameR8 a1 a2 m c1 c2 ys w1 hm h1 h2
      have CP : Hid (∀ i, i < 6 → ∃ v : Int, (wr.alloc (.cells #[.int .i64 (-1), .int .i64 0, .int .i64 1, .int .i64 256, .int .i64 511, .int .i64 512] 3)).cell? ⟨wr.heap.size, i, none⟩ = some (.int .i64 v) ∧ -100000 ≤ v ∧ v ≤ 100000) := by
        have hb := blkN wr (.cells #[.int .i64 (-1), .int .i64 0, .int .i64 1, .int .i64 256, .int .i64 511, .int .i64 512] 3)
        intro i hi
        rcases (show i = 0 ∨ i = 1 ∨ i = 2 ∨ i = 3 ∨ i = 4 ∨ i = 5 by omega) with rfl | rfl | rfl | rfl | rfl | rfl <;> exact ⟨_, by (simp only [World.cell?, hb]; rfl), by omega, by omega⟩
      have GP := hide (hg.out.alloc (.cells #[.int .i64 (-1), .int .i64 0, .int .i64 1, .int .i64 256, .int .i64 511, .int .i64 512] 3))
      clear h5 h7 hm
      go_wp2
      generalize wr.alloc (.cells #[.int .i64 (-1), .int .i64 0, .int .i64 1, .int .i64 256, .int .i64 511, .int .i64 512] 3) = wp at *
      generalize wr.heap.size = bp at *
      go_loopw [4] (fun i wr => ∃ j : Nat, j ≤ 6 ∧ i = .int .i64 (j : Int) ∧ Hid (Gr wp wr)) (fun i _ => 6 - (intOf i).toNat)
      case atStart => exact ⟨0, by omega, rfl, Gr.refl _⟩
      case round =>
        obtain ⟨j, hj, rfl, hgi⟩ := hrel
        by_cases hj6 : j < 6
        · obtain ⟨v, hv, v1, v2⟩ := CP.out j hj6
          replace hv := hgi.out.keep hv
          have hi2 : (j : Int) < 6 := by omega
          have TT := hide (T4.out 9 v v wr.drew (GP.out.trans hgi.out).drew (by omega) (by omega) (by omega) (by omega) (by omega) (by omega))
          go_wp2
          have hS0 : wr.drew.cell? ⟨bp, j, none⟩ = some (.int .i64 v) ∧ Gr wr wr.drew := ⟨hv, (Gr.refl wr).drew⟩
          clear hv
          go_region_held3 (fun w' => w'.cell? ⟨bp, j, none⟩ = some (.int .i64 v) ∧ Gr wr w') (first | (with_reducible assumption) | (apply keep1; (with_reducible assumption); (with_reducible assumption))) (first | (go_at_call 4; (with_reducible refine TT.out.mono ?_); rintro r w2 ⟨rfl, g2⟩))
          go_wp2
          go_roundw
          case rel => exact ⟨j + 1, by omega, by go_num, hgi.out.trans ((Gr.refl wr).drew.trans g2)⟩
          case measure => simp only [intOf]; omega
        · have hj7 : j = 6 := by omega
          have kj : ¬ ((j : Int) < 6) := by omega
          clear hj hj6
          have G := hide (GP.out.trans hgi.out)
          have TL : Hid (∀ w1, Gr w w1 → Calls Tryd.prog 4 #[.int .i64 9, .int .i64 4611686018427387904, .int .i64 1024] w1 fun r w' => r = .returned (.bool true) ∧ Gr w1 w') := fun w1 g => T4.out 9 4611686018427387904 1024 w1 g (by omega) (by omega) (by omega) (by omega) (by omega) (by omega)
          have tk : True := trivial
          go_wp2_with (first | (go_at_call 6; have _t := tk; (with_reducible refine (R6.out _).mono ?_); rintro r w2 ⟨ad, cap, rfl, C2, g2⟩; clear tk; have G := hide (G.out.trans g2); have tk1 : True := trivial) | (go_at_call 5; (with_reducible refine (R5.out _ _ _ G.out C2).mono ?_); rintro r w3 ⟨ad2, c2, rfl, C3, g3⟩; clear C2; have G := hide (G.out.trans g3)) | (go_at_call 6; have _t := tk1; (with_reducible refine (R6.out _).mono ?_); rintro r w4 ⟨ad4, cap4, rfl, C4, g4⟩; clear tk1; have G := hide (G.out.trans g4); have C3 := C3.gr g4) | (go_at_call 7; (with_reducible refine (R7.out _ _ _ G.out C4).mono ?_); rintro r w5 ⟨ad5, c5, rfl, C5, g5⟩; clear C4; have G := hide (G.out.trans g5); have C3 := C3.gr g5) | (go_at_call 8; (with_reducible refine (S8.out _ _ _ _ _ C3 C5).mono ?_); rintro r w6 ⟨rfl, g6⟩; have G := hide (G.out.trans g6)) | (go_at_call 6; (with_reducible refine (R6b.out _).mono ?_); rintro r w7 ⟨ad7, cap7, rfl, C7, g7⟩; have G := hide (G.out.trans g7)) | (go_at_call 9; (with_reducible refine (R9.out _ _ _ G.out C7).mono ?_); rintro r w8 ⟨rfl, g8⟩; have G := hide (G.out.trans g8)) | (go_at_call 4; (with_reducible refine (TL.out _ G.out).mono ?_); rintro r w9 ⟨rfl, g9⟩; have G := hide (G.out.trans g9)))
          go_roundw
          case rel => exact ⟨⟨10, by omega, by omega, rfl⟩, G.out⟩
          case measure => simp only [intOf]; omega
    · obtain ⟨m, E, ys, hm, h5, h7⟩ := both57 1024 (rz 1024) w HT.out (by omega)
      have R5 := hide h5
      have R7 := hide h7
      have R6 : Hid (∀ w1, Calls Tryd.prog 6 #[.int .i64 1024] w1 fun r w' => ∃ ad cap, r = .returned (.slice ad 1024 cap) ∧ CR w' ad 1024 cap (rz 1024) ∧ Gr w1 w') := fun w1 => r6 1024 w1 (by omega)
      have R6b : Hid (∀ w1, Calls Tryd.prog 6 #[.int .i64 1025] w1 fun r w' => ∃ ad cap, r = .returned (.slice ad 1025 cap) ∧ CR w' ad 1025 cap (rz 1025) ∧ Gr w1 w') := fun w1 => r6 1025 w1 (by omega)
      have R9 : Hid (∀ ad cap w1, Gr w w1 → CR w1 ad 1025 cap (rz 1025) → Calls Tryd.prog 9 #[.slice ad 1025 cap] w1 fun r w' => r = .returned (.bool true) ∧ Gr w1 w') := fun ad cap w1 g h => rows9 1025 w HT.out (by omega) (by omega) (Or.inr (by decide)) ad cap w1 g h
      have S8 : Hid (∀ a1 c1 a2 c2 w1, CR w1 a1 m c1 ys → CR w1 a2 m c2 ys → Calls Tryd.prog 8 #[.slice a1 m c1, .slice a2 m c2] w1 fun r w' => r = .returned (.bool true) ∧ Gr w1 w') := fun a1 c1 a2 c2 w1 h1 h2 => sameR8 a1 a2 m c1 c2 ys w1 hm h1 h2
      have CP : Hid (∀ i, i < 6 → ∃ v : Int, (wr.alloc (.cells #[.int .i64 (-1), .int .i64 0, .int .i64 1, .int .i64 512, .int .i64 1023, .int .i64 1024] 3)).cell? ⟨wr.heap.size, i, none⟩ = some (.int .i64 v) ∧ -100000 ≤ v ∧ v ≤ 100000) := by
        have hb := blkN wr (.cells #[.int .i64 (-1), .int .i64 0, .int .i64 1, .int .i64 512, .int .i64 1023, .int .i64 1024] 3)
        intro i hi
        rcases (show i = 0 ∨ i = 1 ∨ i = 2 ∨ i = 3 ∨ i = 4 ∨ i = 5 by omega) with rfl | rfl | rfl | rfl | rfl | rfl <;> exact ⟨_, by (simp only [World.cell?, hb]; rfl), by omega, by omega⟩
      have GP := hide (hg.out.alloc (.cells #[.int .i64 (-1), .int .i64 0, .int .i64 1, .int .i64 512, .int .i64 1023, .int .i64 1024] 3))
      clear h5 h7 hm
      go_wp2
      generalize wr.alloc (.cells #[.int .i64 (-1), .int .i64 0, .int .i64 1, .int .i64 512, .int .i64 1023, .int .i64 1024] 3) = wp at *
      generalize wr.heap.size = bp at *
      go_loopw [4] (fun i wr => ∃ j : Nat, j ≤ 6 ∧ i = .int .i64 (j : Int) ∧ Hid (Gr wp wr)) (fun i _ => 6 - (intOf i).toNat)
      case atStart => exact ⟨0, by omega, rfl, Gr.refl _⟩
      case round =>
        obtain ⟨j, hj, rfl, hgi⟩ := hrel
        by_cases hj6 : j < 6
        · obtain ⟨v, hv, v1, v2⟩ := CP.out j hj6
          replace hv := hgi.out.keep hv
          have hi2 : (j : Int) < 6 := by omega
          have TT := hide (T4.out 10 v v wr.drew (GP.out.trans hgi.out).drew (by omega) (by omega) (by omega) (by omega) (by omega) (by omega))
          go_wp2
          have hS0 : wr.drew.cell? ⟨bp, j, none⟩ = some (.int .i64 v) ∧ Gr wr wr.drew := ⟨hv, (Gr.refl wr).drew⟩
          clear hv
          go_region_held3 (fun w' => w'.cell? ⟨bp, j, none⟩ = some (.int .i64 v) ∧ Gr wr w') (first | (with_reducible assumption) | (apply keep1; (with_reducible assumption); (with_reducible assumption))) (first | (go_at_call 4; (with_reducible refine TT.out.mono ?_); rintro r w2 ⟨rfl, g2⟩))
          go_wp2
          go_roundw
          case rel => exact ⟨j + 1, by omega, by go_num, hgi.out.trans ((Gr.refl wr).drew.trans g2)⟩
          case measure => simp only [intOf]; omega
        · have hj7 : j = 6 := by omega
          have kj : ¬ ((j : Int) < 6) := by omega
          clear hj hj6
          have G := hide (GP.out.trans hgi.out)
          have TL : Hid (∀ w1, Gr w w1 → Calls Tryd.prog 4 #[.int .i64 10, .int .i64 4611686018427387904, .int .i64 2048] w1 fun r w' => r = .returned (.bool true) ∧ Gr w1 w') := fun w1 g => T4.out 10 4611686018427387904 2048 w1 g (by omega) (by omega) (by omega) (by omega) (by omega) (by omega)
          have tk : True := trivial
          go_wp2_with (first | (go_at_call 6; have _t := tk; (with_reducible refine (R6.out _).mono ?_); rintro r w2 ⟨ad, cap, rfl, C2, g2⟩; clear tk; have G := hide (G.out.trans g2); have tk1 : True := trivial) | (go_at_call 5; (with_reducible refine (R5.out _ _ _ G.out C2).mono ?_); rintro r w3 ⟨ad2, c2, rfl, C3, g3⟩; clear C2; have G := hide (G.out.trans g3)) | (go_at_call 6; have _t := tk1; (with_reducible refine (R6.out _).mono ?_); rintro r w4 ⟨ad4, cap4, rfl, C4, g4⟩; clear tk1; have G := hide (G.out.trans g4); have C3 := C3.gr g4) | (go_at_call 7; (with_reducible refine (R7.out _ _ _ G.out C4).mono ?_); rintro r w5 ⟨ad5, c5, rfl, C5, g5⟩; clear C4; have G := hide (G.out.trans g5); have C3 := C3.gr g5) | (go_at_call 8; (with_reducible refine (S8.out _ _ _ _ _ C3 C5).mono ?_); rintro r w6 ⟨rfl, g6⟩; have G := hide (G.out.trans g6)) | (go_at_call 6; (with_reducible refine (R6b.out _).mono ?_); rintro r w7 ⟨ad7, cap7, rfl, C7, g7⟩; have G := hide (G.out.trans g7)) | (go_at_call 9; (with_reducible refine (R9.out _ _ _ G.out C7).mono ?_); rintro r w8 ⟨rfl, g8⟩; have G := hide (G.out.trans g8)) | (go_at_call 4; (with_reducible refine (TL.out _ G.out).mono ?_); rintro r w9 ⟨rfl, g9⟩; have G := hide (G.out.trans g9)))
          go_roundw
          case rel => exact ⟨⟨11, by omega, by omega, rfl⟩, G.out⟩
          case measure => simp only [intOf]; omega
    · obtain ⟨m, E, ys, hm, h5, h7⟩ := both57 2048 (rz 2048) w HT.out (by omega)
      have R5 := hide h5
      have R7 := hide h7
      have R6 : Hid (∀ w1, Calls Tryd.prog 6 #[.int .i64 2048] w1 fun r w' => ∃ ad cap, r = .returned (.slice ad 2048 cap) ∧ CR w' ad 2048 cap (rz 2048) ∧ Gr w1 w') := fun w1 => r6 2048 w1 (by omega)
      have R6b : Hid (∀ w1, Calls Tryd.prog 6 #[.int .i64 2049] w1 fun r w' => ∃ ad cap, r = .returned (.slice ad 2049 cap) ∧ CR w' ad 2049 cap (rz 2049) ∧ Gr w1 w') := fun w1 => r6 2049 w1 (by omega)
      have R9 : Hid (∀ ad cap w1, Gr w w1 → CR w1 ad 2049 cap (rz 2049) → Calls Tryd.prog 9 #[.slice ad 2049 cap] w1 fun r w' => r = .returned (.bool true) ∧ Gr w1 w') := fun ad cap w1 g h => rows9 2049 w HT.out (by omega) (by omega) (Or.inr (by decide)) ad cap w1 g h
      have S8 : Hid (∀ a1 c1 a2 c2 w1, CR w1 a1 m c1 ys → CR w1 a2 m c2 ys → Calls Tryd.prog 8 #[.slice a1 m c1, .slice a2 m c2] w1 fun r w' => r = .returned (.bool true) ∧ Gr w1 w') := fun a1 c1 a2 c2 w1 h1 h2 => sameR8 a1 a2 m c1 c2 ys w1 hm h1 h2
      have CP : Hid (∀ i, i < 6 → ∃ v : Int, (wr.alloc (.cells #[.int .i64 (-1), .int .i64 0, .int .i64 1, .int .i64 1024, .int .i64 2047, .int .i64 2048] 3)).cell? ⟨wr.heap.size, i, none⟩ = some (.int .i64 v) ∧ -100000 ≤ v ∧ v ≤ 100000) := by
        have hb := blkN wr (.cells #[.int .i64 (-1), .int .i64 0, .int .i64 1, .int .i64 1024, .int .i64 2047, .int .i64 2048] 3)
        intro i hi
        rcases (show i = 0 ∨ i = 1 ∨ i = 2 ∨ i = 3 ∨ i = 4 ∨ i = 5 by omega) with rfl | rfl | rfl | rfl | rfl | rfl <;> exact ⟨_, by (simp only [World.cell?, hb]; rfl), by omega, by omega⟩
      have GP := hide (hg.out.alloc (.cells #[.int .i64 (-1), .int .i64 0, .int .i64 1, .int .i64 1024, .int .i64 2047, .int .i64 2048] 3))
      clear h5 h7 hm
      go_wp2
      generalize wr.alloc (.cells #[.int .i64 (-1), .int .i64 0, .int .i64 1, .int .i64 1024, .int .i64 2047, .int .i64 2048] 3) = wp at *
      generalize wr.heap.size = bp at *
      go_loopw [4] (fun i wr => ∃ j : Nat, j ≤ 6 ∧ i = .int .i64 (j : Int) ∧ Hid (Gr wp wr)) (fun i _ => 6 - (intOf i).toNat)
      case atStart => exact ⟨0, by omega, rfl, Gr.refl _⟩
      case round =>
        obtain ⟨j, hj, rfl, hgi⟩ := hrel
        by_cases hj6 : j < 6
        · obtain ⟨v, hv, v1, v2⟩ := CP.out j hj6
          replace hv := hgi.out.keep hv
          have hi2 : (j : Int) < 6 := by omega
          have TT := hide (T4.out 11 v v wr.drew (GP.out.trans hgi.out).drew (by omega) (by omega) (by omega) (by omega) (by omega) (by omega))
          go_wp2
          have hS0 : wr.drew.cell? ⟨bp, j, none⟩ = some (.int .i64 v) ∧ Gr wr wr.drew := ⟨hv, (Gr.refl wr).drew⟩
          clear hv
          go_region_held3 (fun w' => w'.cell? ⟨bp, j, none⟩ = some (.int .i64 v) ∧ Gr wr w') (first | (with_reducible assumption) | (apply keep1; (with_reducible assumption); (with_reducible assumption))) (first | (go_at_call 4; (with_reducible refine TT.out.mono ?_); rintro r w2 ⟨rfl, g2⟩))
          go_wp2
          go_roundw
          case rel => exact ⟨j + 1, by omega, by go_num, hgi.out.trans ((Gr.refl wr).drew.trans g2)⟩
          case measure => simp only [intOf]; omega
        · have hj7 : j = 6 := by omega
          have kj : ¬ ((j : Int) < 6) := by omega
          clear hj hj6
          have G := hide (GP.out.trans hgi.out)
          have TL : Hid (∀ w1, Gr w w1 → Calls Tryd.prog 4 #[.int .i64 11, .int .i64 4611686018427387904, .int .i64 4096] w1 fun r w' => r = .returned (.bool true) ∧ Gr w1 w') := fun w1 g => T4.out 11 4611686018427387904 4096 w1 g (by omega) (by omega) (by omega) (by omega) (by omega) (by omega)
          have tk : True := trivial
          go_wp2_with (first | (go_at_call 6; have _t := tk; (with_reducible refine (R6.out _).mono ?_); rintro r w2 ⟨ad, cap, rfl, C2, g2⟩; clear tk; have G := hide (G.out.trans g2); have tk1 : True := trivial) | (go_at_call 5; (with_reducible refine (R5.out _ _ _ G.out C2).mono ?_); rintro r w3 ⟨ad2, c2, rfl, C3, g3⟩; clear C2; have G := hide (G.out.trans g3)) | (go_at_call 6; have _t := tk1; (with_reducible refine (R6.out _).mono ?_); rintro r w4 ⟨ad4, cap4, rfl, C4, g4⟩; clear tk1; have G := hide (G.out.trans g4); have C3 := C3.gr g4) | (go_at_call 7; (with_reducible refine (R7.out _ _ _ G.out C4).mono ?_); rintro r w5 ⟨ad5, c5, rfl, C5, g5⟩; clear C4; have G := hide (G.out.trans g5); have C3 := C3.gr g5) | (go_at_call 8; (with_reducible refine (S8.out _ _ _ _ _ C3 C5).mono ?_); rintro r w6 ⟨rfl, g6⟩; have G := hide (G.out.trans g6)) | (go_at_call 6; (with_reducible refine (R6b.out _).mono ?_); rintro r w7 ⟨ad7, cap7, rfl, C7, g7⟩; have G := hide (G.out.trans g7)) | (go_at_call 9; (with_reducible refine (R9.out _ _ _ G.out C7).mono ?_); rintro r w8 ⟨rfl, g8⟩; have G := hide (G.out.trans g8)) | (go_at_call 4; (with_reducible refine (TL.out _ G.out).mono ?_); rintro r w9 ⟨rfl, g9⟩; have G := hide (G.out.trans g9)))
          go_roundw
          case rel => exact ⟨⟨12, by omega, by omega, rfl⟩, G.out⟩
          case measure => simp only [intOf]; omega
    · obtain ⟨m, E, ys, hm, h5, h7⟩ := both57 4096 (rz 4096) w HT.out (by omega)
      have R5 := hide h5
      have R7 := hide h7
      have R6 : Hid (∀ w1, Calls Tryd.prog 6 #[.int .i64 4096] w1 fun r w' => ∃ ad cap, r = .returned (.slice ad 4096 cap) ∧ CR w' ad 4096 cap (rz 4096) ∧ Gr w1 w') := fun w1 => r6 4096 w1 (by omega)
      have R6b : Hid (∀ w1, Calls Tryd.prog 6 #[.int .i64 4097] w1 fun r w' => ∃ ad cap, r = .returned (.slice ad 4097 cap) ∧ CR w' ad 4097 cap (rz 4097) ∧ Gr w1 w') := fun w1 => r6 4097 w1 (by omega)
      have R9 : Hid (∀ ad cap w1, Gr w w1 → CR w1 ad 4097 cap (rz 4097) → Calls Tryd.prog 9 #[.slice ad 4097 cap] w1 fun r w' => r = .returned (.bool true) ∧ Gr w1 w') := fun ad cap w1 g h => rows9 4097 w HT.out (by omega) (by omega) (Or.inr (by decide)) ad cap w1 g h
      have S8 : Hid (∀ a1 c1 a2 c2 w1, CR w1 a1 m c1 ys → CR w1 a2 m c2 ys → Calls Tryd.prog 8 #[.slice a1 m c1, .slice a2 m c2] w1 fun r w' => r = .returned (.bool true) ∧ Gr w1 w') := fun a1 c1 a2 c2 w1 h1 h2 => sameR8 a1 a2 m c1 c2 ys w1 hm h1 h2
      have CP : Hid (∀ i, i < 6 → ∃ v : Int, (wr.alloc (.cells #[.int .i64 (-1), .int .i64 0, .int .i64 1, .int .i64 2048, .int .i64 4095, .int .i64 4096] 3)).cell? ⟨wr.heap.size, i, none⟩ = some (.int .i64 v) ∧ -100000 ≤ v ∧ v ≤ 100000) := by
        have hb := blkN wr (.cells #[.int .i64 (-1), .int .i64 0, .int .i64 1, .int .i64 2048, .int .i64 4095, .int .i64 4096] 3)
        intro i hi
        rcases (show i = 0 ∨ i = 1 ∨ i = 2 ∨ i = 3 ∨ i = 4 ∨ i = 5 by omega) with rfl | rfl | rfl | rfl | rfl | rfl <;> exact ⟨_, by (simp only [World.cell?, hb]; rfl), by omega, by omega⟩
      have GP := hide (hg.out.alloc (.cells #[.int .i64 (-1), .int .i64 0, .int .i64 1, .int .i64 2048, .int .i64 4095, .int .i64 4096] 3))
      clear h5 h7 hm
      go_wp2
      generalize wr.alloc (.cells #[.int .i64 (-1), .int .i64 0, .int .i64 1, .int .i64 2048, .int .i64 4095, .int .i64 4096] 3) = wp at *
      generalize wr.heap.size = bp at *
      go_loopw [4] (fun i wr => ∃ j : Nat, j ≤ 6 ∧ i = .int .i64 (j : Int) ∧ Hid (Gr wp wr)) (fun i _ => 6 - (intOf i).toNat)
      case atStart => exact ⟨0, by omega, rfl, Gr.refl _⟩
      case round =>
        obtain ⟨j, hj, rfl, hgi⟩ := hrel
        by_cases hj6 : j < 6
        · obtain ⟨v, hv, v1, v2⟩ := CP.out j hj6
          replace hv := hgi.out.keep hv
          have hi2 : (j : Int) < 6 := by omega
          have TT := hide (T4.out 12 v v wr.drew (GP.out.trans hgi.out).drew (by omega) (by omega) (by omega) (by omega) (by omega) (by omega))
          go_wp2
          have hS0 : wr.drew.cell? ⟨bp, j, none⟩ = some (.int .i64 v) ∧ Gr wr wr.drew := ⟨hv, (Gr.refl wr).drew⟩
          clear hv
          go_region_held3 (fun w' => w'.cell? ⟨bp, j, none⟩ = some (.int .i64 v) ∧ Gr wr w') (first | (with_reducible assumption) | (apply keep1; (with_reducible assumption); (with_reducible assumption))) (first | (go_at_call 4; (with_reducible refine TT.out.mono ?_); rintro r w2 ⟨rfl, g2⟩))
          go_wp2
          go_roundw
          case rel => exact ⟨j + 1, by omega, by go_num, hgi.out.trans ((Gr.refl wr).drew.trans g2)⟩
          case measure => simp only [intOf]; omega
        · have hj7 : j = 6 := by omega
          have kj : ¬ ((j : Int) < 6) := by omega
          clear hj hj6
          have G := hide (GP.out.trans hgi.out)
          have TL : Hid (∀ w1, Gr w w1 → Calls Tryd.prog 4 #[.int .i64 12, .int .i64 4611686018427387904, .int .i64 8192] w1 fun r w' => r = .returned (.bool true) ∧ Gr w1 w') := fun w1 g => T4.out 12 4611686018427387904 8192 w1 g (by omega) (by omega) (by omega) (by omega) (by omega) (by omega)
          have tk : True := trivial
          go_wp2_with (first | (go_at_call 6; have _t := tk; (with_reducible refine (R6.out _).mono ?_); rintro r w2 ⟨ad, cap, rfl, C2, g2⟩; clear tk; have G := hide (G.out.trans g2); have tk1 : True := trivial) | (go_at_call 5; (with_reducible refine (R5.out _ _ _ G.out C2).mono ?_); rintro r w3 ⟨ad2, c2, rfl, C3, g3⟩; clear C2; have G := hide (G.out.trans g3)) | (go_at_call 6; have _t := tk1; (with_reducible refine (R6.out _).mono ?_); rintro r w4 ⟨ad4, cap4, rfl, C4, g4⟩; clear tk1; have G := hide (G.out.trans g4); have C3 := C3.gr g4) | (go_at_call 7; (with_reducible refine (R7.out _ _ _ G.out C4).mono ?_); rintro r w5 ⟨ad5, c5, rfl, C5, g5⟩; clear C4; have G := hide (G.out.trans g5); have C3 := C3.gr g5) | (go_at_call 8; (with_reducible refine (S8.out _ _ _ _ _ C3 C5).mono ?_); rintro r w6 ⟨rfl, g6⟩; have G := hide (G.out.trans g6)) | (go_at_call 6; (with_reducible refine (R6b.out _).mono ?_); rintro r w7 ⟨ad7, cap7, rfl, C7, g7⟩; have G := hide (G.out.trans g7)) | (go_at_call 9; (with_reducible refine (R9.out _ _ _ G.out C7).mono ?_); rintro r w8 ⟨rfl, g8⟩; have G := hide (G.out.trans g8)) | (go_at_call 4; (with_reducible refine (TL.out _ G.out).mono ?_); rintro r w9 ⟨rfl, g9⟩; have G := hide (G.out.trans g9)))
          go_roundw
          case rel => exact ⟨⟨13, by omega, by omega, rfl⟩, G.out⟩
          case measure => simp only [intOf]; omega
    · obtain ⟨m, E, ys, hm, h5, h7⟩ := both57 8192 (rz 8192) w HT.out (by omega)
      have R5 := hide h5
      have R7 := hide h7
      have R6 : Hid (∀ w1, Calls Tryd.prog 6 #[.int .i64 8192] w1 fun r w' => ∃ ad cap, r = .returned (.slice ad 8192 cap) ∧ CR w' ad 8192 cap (rz 8192) ∧ Gr w1 w') := fun w1 => r6 8192 w1 (by omega)
      have R6b : Hid (∀ w1, Calls Tryd.prog 6 #[.int .i64 8193] w1 fun r w' => ∃ ad cap, r = .returned (.slice ad 8193 cap) ∧ CR w' ad 8193 cap (rz 8193) ∧ Gr w1 w') := fun w1 => r6 8193 w1 (by omega)
      have R9 : Hid (∀ ad cap w1, Gr w w1 → CR w1 ad 8193 cap (rz 8193) → Calls Tryd.prog 9 #[.slice ad 8193 cap] w1 fun r w' => r = .returned (.bool true) ∧ Gr w1 w') := fun ad cap w1 g h => rows9 8193 w HT.out (by omega) (by omega) (Or.inr (by decide)) ad cap w1 g h
      have S8 : Hid (∀ a1 c1 a2 c2 w1, CR w1 a1 m c1 ys → CR w1 a2 m c2 ys → Calls Tryd.prog 8 #[.slice a1 m c1, .slice a2 m c2] w1 fun r w' => r = .returned (.bool true) ∧ Gr w1 w') := fun a1 c1 a2 c2 w1 h1 h2 => sameR8 a1 a2 m c1 c2 ys w1 hm h1 h2
      have CP : Hid (∀ i, i < 6 → ∃ v : Int, (wr.alloc (.cells #[.int .i64 (-1), .int .i64 0, .int .i64 1, .int .i64 4096, .int .i64 8191, .int .i64 8192] 3)).cell? ⟨wr.heap.size, i, none⟩ = some (.int .i64 v) ∧ -100000 ≤ v ∧ v ≤ 100000) := by
        have hb := blkN wr (.cells #[.int .i64 (-1), .int .i64 0, .int .i64 1, .int .i64 4096, .int .i64 8191, .int .i64 8192] 3)
        intro i hi
        rcases (show i = 0 ∨ i = 1 ∨ i = 2 ∨ i = 3 ∨ i = 4 ∨ i = 5 by omega) with rfl | rfl | rfl | rfl | rfl | rfl <;> exact ⟨_, by (simp only [World.cell?, hb]; rfl), by omega, by omega⟩
      have GP := hide (hg.out.alloc (.cells #[.int .i64 (-1), .int .i64 0, .int .i64 1, .int .i64 4096, .int .i64 8191, .int .i64 8192] 3))
      clear h5 h7 hm
      go_wp2
      generalize wr.alloc (.cells #[.int .i64 (-1), .int .i64 0, .int .i64 1, .int .i64 4096, .int .i64 8191, .int .i64 8192] 3) = wp at *
      generalize wr.heap.size = bp at *
      go_loopw [4] (fun i wr => ∃ j : Nat, j ≤ 6 ∧ i = .int .i64 (j : Int) ∧ Hid (Gr wp wr)) (fun i _ => 6 - (intOf i).toNat)
      case atStart => exact ⟨0, by omega, rfl, Gr.refl _⟩
      case round =>
        obtain ⟨j, hj, rfl, hgi⟩ := hrel
        by_cases hj6 : j < 6
        · obtain ⟨v, hv, v1, v2⟩ := CP.out j hj6
          replace hv := hgi.out.keep hv
          have hi2 : (j : Int) < 6 := by omega
          have TT := hide (T4.out 13 v v wr.drew (GP.out.trans hgi.out).drew (by omega) (by omega) (by omega) (by omega) (by omega) (by omega))
          go_wp2
          have hS0 : wr.drew.cell? ⟨bp, j, none⟩ = some (.int .i64 v) ∧ Gr wr wr.drew := ⟨hv, (Gr.refl wr).drew⟩
          clear hv
          go_region_held3 (fun w' => w'.cell? ⟨bp, j, none⟩ = some (.int .i64 v) ∧ Gr wr w') (first | (with_reducible assumption) | (apply keep1; (with_reducible assumption); (with_reducible assumption))) (first | (go_at_call 4; (with_reducible refine TT.out.mono ?_); rintro r w2 ⟨rfl, g2⟩))
          go_wp2
          go_roundw
          case rel => exact ⟨j + 1, by omega, by go_num, hgi.out.trans ((Gr.refl wr).drew.trans g2)⟩
          case measure => simp only [intOf]; omega
        · have hj7 : j = 6 := by omega
          have kj : ¬ ((j : Int) < 6) := by omega
          clear hj hj6
          have G := hide (GP.out.trans hgi.out)
          have TL : Hid (∀ w1, Gr w w1 → Calls Tryd.prog 4 #[.int .i64 13, .int .i64 4611686018427387904, .int .i64 16384] w1 fun r w' => r = .returned (.bool true) ∧ Gr w1 w') := fun w1 g => T4.out 13 4611686018427387904 16384 w1 g (by omega) (by omega) (by omega) (by omega) (by omega) (by omega)
          have tk : True := trivial
          go_wp2_with (first | (go_at_call 6; have _t := tk; (with_reducible refine (R6.out _).mono ?_); rintro r w2 ⟨ad, cap, rfl, C2, g2⟩; clear tk; have G := hide (G.out.trans g2); have tk1 : True := trivial) | (go_at_call 5; (with_reducible refine (R5.out _ _ _ G.out C2).mono ?_); rintro r w3 ⟨ad2, c2, rfl, C3, g3⟩; clear C2; have G := hide (G.out.trans g3)) | (go_at_call 6; have _t := tk1; (with_reducible refine (R6.out _).mono ?_); rintro r w4 ⟨ad4, cap4, rfl, C4, g4⟩; clear tk1; have G := hide (G.out.trans g4); have C3 := C3.gr g4) | (go_at_call 7; (with_reducible refine (R7.out _ _ _ G.out C4).mono ?_); rintro r w5 ⟨ad5, c5, rfl, C5, g5⟩; clear C4; have G := hide (G.out.trans g5); have C3 := C3.gr g5) | (go_at_call 8; (with_reducible refine (S8.out _ _ _ _ _ C3 C5).mono ?_); rintro r w6 ⟨rfl, g6⟩; have G := hide (G.out.trans g6)) | (go_at_call 6; (with_reducible refine (R6b.out _).mono ?_); rintro r w7 ⟨ad7, cap7, rfl, C7, g7⟩; have G := hide (G.out.trans g7)) | (go_at_call 9; (with_reducible refine (R9.out _ _ _ G.out C7).mono ?_); rintro r w8 ⟨rfl, g8⟩; have G := hide (G.out.trans g8)) | (go_at_call 4; (with_reducible refine (TL.out _ G.out).mono ?_); rintro r w9 ⟨rfl, g9⟩; have G := hide (G.out.trans g9)))
          go_roundw
          case rel => exact ⟨⟨14, by omega, by omega, rfl⟩, G.out⟩
          case measure => simp only [intOf]; omega
    · obtain ⟨m, E, ys, hm, h5, h7⟩ := both57 16384 (rz 16384) w HT.out (by omega)
      have R5 := hide h5
      have R7 := hide h7
      have R6 : Hid (∀ w1, Calls Tryd.prog 6 #[.int .i64 16384] w1 fun r w' => ∃ ad cap, r = .returned (.slice ad 16384 cap) ∧ CR w' ad 16384 cap (rz 16384) ∧ Gr w1 w') := fun w1 => r6 16384 w1 (by omega)
      have R6b : Hid (∀ w1, Calls Tryd.prog 6 #[.int .i64 16385] w1 fun r w' => ∃ ad cap, r = .returned (.slice ad 16385 cap) ∧ CR w' ad 16385 cap (rz 16385) ∧ Gr w1 w') := fun w1 => r6 16385 w1 (by omega)
      have R9 : Hid (∀ ad cap w1, Gr w w1 → CR w1 ad 16385 cap (rz 16385) → Calls Tryd.prog 9 #[.slice ad 16385 cap] w1 fun r w' => r = .returned (.bool true) ∧ Gr w1 w') := fun ad cap w1 g h => rows9 16385 w HT.out (by omega) (by omega) (Or.inr (by decide)) ad cap w1 g h
      have S8 : Hid (∀ a1 c1 a2 c2 w1, CR w1 a1 m c1 ys → CR w1 a2 m c2 ys → Calls Tryd.prog 8 #[.slice a1 m c1, .slice a2 m c2] w1 fun r w' => r = .returned (.bool true) ∧ Gr w1 w') := fun a1 c1 a2 c2 w1 h1 h2 => sameR8 a1 a2 m c1 c2 ys w1 hm h1 h2
      have CP : Hid (∀ i, i < 6 → ∃ v : Int, (wr.alloc (.cells #[.int .i64 (-1), .int .i64 0, .int .i64 1, .int .i64 8192, .int .i64 16383, .int .i64 16384] 3)).cell? ⟨wr.heap.size, i, none⟩ = some (.int .i64 v) ∧ -100000 ≤ v ∧ v ≤ 100000) := by
        have hb := blkN wr (.cells #[.int .i64 (-1), .int .i64 0, .int .i64 1, .int .i64 8192, .int .i64 16383, .int .i64 16384] 3)
        intro i hi
        rcases (show i = 0 ∨ i = 1 ∨ i = 2 ∨ i = 3 ∨ i = 4 ∨ i = 5 by omega) with rfl | rfl | rfl | rfl | rfl | rfl <;> exact ⟨_, by (simp only [World.cell?, hb]; rfl), by omega, by omega⟩
      have GP := hide (hg.out.alloc (.cells #[.int .i64 (-1), .int .i64 0, .int .i64 1, .int .i64 8192, .int .i64 16383, .int .i64 16384] 3))
      clear h5 h7 hm
      go_wp2
      generalize wr.alloc (.cells #[.int .i64 (-1), .int .i64 0, .int .i64 1, .int .i64 8192, .int .i64 16383, .int .i64 16384] 3) = wp at *
      generalize wr.heap.size = bp at *
      go_loopw [4] (fun i wr => ∃ j : Nat, j ≤ 6 ∧ i = .int .i64 (j : Int) ∧ Hid (Gr wp wr)) (fun i _ => 6 - (intOf i).toNat)
      case atStart => exact ⟨0, by omega, rfl, Gr.refl _⟩
      case round =>
        obtain ⟨j, hj, rfl, hgi⟩ := hrel
        by_cases hj6 : j < 6
        · obtain ⟨v, hv, v1, v2⟩ := CP.out j hj6
          replace hv := hgi.out.keep hv
          have hi2 : (j : Int) < 6 := by omega
          have TT := hide (T4.out 14 v v wr.drew (GP.out.trans hgi.out).drew (by omega) (by omega) (by omega) (by omega) (by omega) (by omega))
          go_wp2
          have hS0 : wr.drew.cell? ⟨bp, j, none⟩ = some (.int .i64 v) ∧ Gr wr wr.drew := ⟨hv, (Gr.refl wr).drew⟩
          clear hv
          go_region_held3 (fun w' => w'.cell? ⟨bp, j, none⟩ = some (.int .i64 v) ∧ Gr wr w') (first | (with_reducible assumption) | (apply keep1; (with_reducible assumption); (with_reducible assumption))) (first | (go_at_call 4; (with_reducible refine TT.out.mono ?_); rintro r w2 ⟨rfl, g2⟩))
          go_wp2
          go_roundw
          case rel => exact ⟨j + 1, by omega, by go_num, hgi.out.trans ((Gr.refl wr).drew.trans g2)⟩
          case measure => simp only [intOf]; omega
        · have hj7 : j = 6 := by omega
          have kj : ¬ ((j : Int) < 6) := by omega
          clear hj hj6
          have G := hide (GP.out.trans hgi.out)
          have TL : Hid (∀ w1, Gr w w1 → Calls Tryd.prog 4 #[.int .i64 14, .int .i64 4611686018427387904, .int .i64 32768] w1 fun r w' => r = .returned (.bool true) ∧ Gr w1 w') := fun w1 g => T4.out 14 4611686018427387904 32768 w1 g (by omega) (by omega) (by omega) (by omega) (by omega) (by omega)
          have tk : True := trivial
          go_wp2_with (first | (go_at_call 6; have _t := tk; (with_reducible refine (R6.out _).mono ?_); rintro r w2 ⟨ad, cap, rfl, C2, g2⟩; clear tk; have G := hide (G.out.trans g2); have tk1 : True := trivial) | (go_at_call 5; (with_reducible refine (R5.out _ _ _ G.out C2).mono ?_); rintro r w3 ⟨ad2, c2, rfl, C3, g3⟩; clear C2; have G := hide (G.out.trans g3)) | (go_at_call 6; have _t := tk1; (with_reducible refine (R6.out _).mono ?_); rintro r w4 ⟨ad4, cap4, rfl, C4, g4⟩; clear tk1; have G := hide (G.out.trans g4); have C3 := C3.gr g4) | (go_at_call 7; (with_reducible refine (R7.out _ _ _ G.out C4).mono ?_); rintro r w5 ⟨ad5, c5, rfl, C5, g5⟩; clear C4; have G := hide (G.out.trans g5); have C3 := C3.gr g5) | (go_at_call 8; (with_reducible refine (S8.out _ _ _ _ _ C3 C5).mono ?_); rintro r w6 ⟨rfl, g6⟩; have G := hide (G.out.trans g6)) | (go_at_call 6; (with_reducible refine (R6b.out _).mono ?_); rintro r w7 ⟨ad7, cap7, rfl, C7, g7⟩; have G := hide (G.out.trans g7)) | (go_at_call 9; (with_reducible refine (R9.out _ _ _ G.out C7).mono ?_); rintro r w8 ⟨rfl, g8⟩; have G := hide (G.out.trans g8)) | (go_at_call 4; (with_reducible refine (TL.out _ G.out).mono ?_); rintro r w9 ⟨rfl, g9⟩; have G := hide (G.out.trans g9)))
          go_roundw
          case rel => exact ⟨⟨15, by omega, by omega, rfl⟩, G.out⟩
          case measure => simp only [intOf]; omega
    · obtain ⟨m, E, ys, hm, h5, h7⟩ := both57 32768 (rz 32768) w HT.out (by omega)
      have R5 := hide h5
      have R7 := hide h7
      have R6 : Hid (∀ w1, Calls Tryd.prog 6 #[.int .i64 32768] w1 fun r w' => ∃ ad cap, r = .returned (.slice ad 32768 cap) ∧ CR w' ad 32768 cap (rz 32768) ∧ Gr w1 w') := fun w1 => r6 32768 w1 (by omega)
      have R6b : Hid (∀ w1, Calls Tryd.prog 6 #[.int .i64 32769] w1 fun r w' => ∃ ad cap, r = .returned (.slice ad 32769 cap) ∧ CR w' ad 32769 cap (rz 32769) ∧ Gr w1 w') := fun w1 => r6 32769 w1 (by omega)
      have R9 : Hid (∀ ad cap w1, Gr w w1 → CR w1 ad 32769 cap (rz 32769) → Calls Tryd.prog 9 #[.slice ad 32769 cap] w1 fun r w' => r = .returned (.bool true) ∧ Gr w1 w') := fun ad cap w1 g h => rows9 32769 w HT.out (by omega) (by omega) (Or.inr (by decide)) ad cap w1 g h
      have S8 : Hid (∀ a1 c1 a2 c2 w1, CR w1 a1 m c1 ys → CR w1 a2 m c2 ys → Calls Tryd.prog 8 #[.slice a1 m c1, .slice a2 m c2] w1 fun r w' => r = .returned (.bool true) ∧ Gr w1 w') := fun a1 c1 a2 c2 w1 h1 h2 => sameR8 a1 a2 m c1 c2 ys w1 hm h1 h2
      have CP : Hid (∀ i, i < 6 → ∃ v : Int, (wr.alloc (.cells #[.int .i64 (-1), .int .i64 0, .int .i64 1, .int .i64 16384, .int .i64 32767, .int .i64 32768] 3)).cell? ⟨wr.heap.size, i, none⟩ = some (.int .i64 v) ∧ -100000 ≤ v ∧ v ≤ 100000) := by
        have hb := blkN wr (.cells #[.int .i64 (-1), .int .i64 0, .int .i64 1, .int .i64 16384, .int .i64 32767, .int .i64 32768] 3)
        intro i hi
        rcases (show i = 0 ∨ i = 1 ∨ i = 2 ∨ i = 3 ∨ i = 4 ∨ i = 5 by omega) with rfl | rfl | rfl | rfl | rfl | rfl <;> exact ⟨_, by (simp only [World.cell?, hb]; rfl), by omega, by omega⟩
      have GP := hide (hg.out.alloc (.cells #[.int .i64 (-1), .int .i64 0, .int .i64 1, .int .i64 16384, .int .i64 32767, .int .i64 32768] 3))
      clear h5 h7 hm
      go_wp2
      generalize wr.alloc (.cells #[.int .i64 (-1), .int .i64 0, .int .i64 1, .int .i64 16384, .int .i64 32767, .int .i64 32768] 3) = wp at *
      generalize wr.heap.size = bp at *
      go_loopw [4] (fun i wr => ∃ j : Nat, j ≤ 6 ∧ i = .int .i64 (j : Int) ∧ Hid (Gr wp wr)) (fun i _ => 6 - (intOf i).toNat)
      case atStart => exact ⟨0, by omega, rfl, Gr.refl _⟩
      case round =>
        obtain ⟨j, hj, rfl, hgi⟩ := hrel
        by_cases hj6 : j < 6
        · obtain ⟨v, hv, v1, v2⟩ := CP.out j hj6
          replace hv := hgi.out.keep hv
          have hi2 : (j : Int) < 6 := by omega
          have TT := hide (T4.out 15 v v wr.drew (GP.out.trans hgi.out).drew (by omega) (by omega) (by omega) (by omega) (by omega) (by omega))
          go_wp2
          have hS0 : wr.drew.cell? ⟨bp, j, none⟩ = some (.int .i64 v) ∧ Gr wr wr.drew := ⟨hv, (Gr.refl wr).drew⟩
          clear hv
          go_region_held3 (fun w' => w'.cell? ⟨bp, j, none⟩ = some (.int .i64 v) ∧ Gr wr w') (first | (with_reducible assumption) | (apply keep1; (with_reducible assumption); (with_reducible assumption))) (first | (go_at_call 4; (with_reducible refine TT.out.mono ?_); rintro r w2 ⟨rfl, g2⟩))
          go_wp2
          go_roundw
          case rel => exact ⟨j + 1, by omega, by go_num, hgi.out.trans ((Gr.refl wr).drew.trans g2)⟩
          case measure => simp only [intOf]; omega
        · have hj7 : j = 6 := by omega
          have kj : ¬ ((j : Int) < 6) := by omega
          clear hj hj6
          have G := hide (GP.out.trans hgi.out)
          have TL : Hid (∀ w1, Gr w w1 → Calls Tryd.prog 4 #[.int .i64 15, .int .i64 4611686018427387904, .int .i64 65536] w1 fun r w' => r = .returned (.bool true) ∧ Gr w1 w') := fun w1 g => T4.out 15 4611686018427387904 65536 w1 g (by omega) (by omega) (by omega) (by omega) (by omega) (by omega)
          have tk : True := trivial
          go_wp2_with (first | (go_at_call 6; have _t := tk; (with_reducible refine (R6.out _).mono ?_); rintro r w2 ⟨ad, cap, rfl, C2, g2⟩; clear tk; have G := hide (G.out.trans g2); have tk1 : True := trivial) | (go_at_call 5; (with_reducible refine (R5.out _ _ _ G.out C2).mono ?_); rintro r w3 ⟨ad2, c2, rfl, C3, g3⟩; clear C2; have G := hide (G.out.trans g3)) | (go_at_call 6; have _t := tk1; (with_reducible refine (R6.out _).mono ?_); rintro r w4 ⟨ad4, cap4, rfl, C4, g4⟩; clear tk1; have G := hide (G.out.trans g4); have C3 := C3.gr g4) | (go_at_call 7; (with_reducible refine (R7.out _ _ _ G.out C4).mono ?_); rintro r w5 ⟨ad5, c5, rfl, C5, g5⟩; clear C4; have G := hide (G.out.trans g5); have C3 := C3.gr g5) | (go_at_call 8; (with_reducible refine (S8.out _ _ _ _ _ C3 C5).mono ?_); rintro r w6 ⟨rfl, g6⟩; have G := hide (G.out.trans g6)) | (go_at_call 6; (with_reducible refine (R6b.out _).mono ?_); rintro r w7 ⟨ad7, cap7, rfl, C7, g7⟩; have G := hide (G.out.trans g7)) | (go_at_call 9; (with_reducible refine (R9.out _ _ _ G.out C7).mono ?_); rintro r w8 ⟨rfl, g8⟩; have G := hide (G.out.trans g8)) | (go_at_call 4; (with_reducible refine (TL.out _ G.out).mono ?_); rintro r w9 ⟨rfl, g9⟩; have G := hide (G.out.trans g9)))
          go_roundw
          case rel => exact ⟨⟨16, by omega, by omega, rfl⟩, G.out⟩
          case measure => simp only [intOf]; omega
    · have T10a : Hid (∀ w1, Gr w w1 → Calls Tryd.prog 10 #[.int .i64 3, .int .i64 8] w1 fun r w' => r = .returned (.tuple #[.int .i64 0, .int .i64 2]) ∧ w1 = w') := fun w1 g => (turned4 3 8 w1 (HT.out.gr g) (by omega) (by omega) (by omega) (by omega)).mono fun r w' h => ⟨h.1, h.2.symm⟩
      have T10b : Hid (∀ w1, Gr w w1 → Calls Tryd.prog 10 #[.int .i64 15, .int .i64 0] w1 fun r w' => r = .returned (.tuple #[.int .i64 0, .int .i64 2]) ∧ w1 = w') := fun w1 g => (turned4 15 0 w1 (HT.out.gr g) (by omega) (by omega) (by omega) (by omega)).mono fun r w' h => ⟨h.1, h.2.symm⟩
      have R5n : Hid (∀ w1, Calls Tryd.prog 5 #[.slice none 0 0] w1 fun r w' => r = .returned (.tuple #[.slice none 0 0, .int .i64 4]) ∧ w1 = w') := fun w1 => row5_no 0 0 none w1 (by omega) (fun k _ e => by have := Nat.two_pow_pos k; omega)
      have CS : Hid (∀ w1, Calls Tryd.prog 11 #[.float .f64 0, .float .f64 13830554455654793216] w1 fun r w' => r = .returned (.float .f64 9223372036854775808) ∧ w1 = w') := fun w1 => copy11 w1
      have NA : Hid (∀ w1, Calls Tryd.prog 12 #[] w1 fun r w' => r = .returned (.float .f64 9221120237041090561) ∧ w1 = w') := fun w1 => nan12 w1
      have IN : Hid (∀ w1, Calls Tryd.prog 13 #[.int .i64 1] w1 fun r w' => r = .returned (.float .f64 9218868437227405312) ∧ w1 = w') := fun w1 => inf13 w1
      have AW : Hid (∀ w1, Gr w w1 → Calls Tryd.prog 14 #[] w1 fun r w' => r = .returned (.bool true) ∧ Gr w1 w') := fun w1 g => awake8 w1 (HT.out.gr g)
      have R5o : Hid (∀ ob : Obj, ob = .cells #[.complex .f64 9223372036854775808 0, .complex .f64 0 9223372036854775808, .complex .f64 9221120237041090561 4607182418800017408, .complex .f64 9218868437227405312 9223372036854775808] 36 → Calls Tryd.prog 5 #[.slice (some ⟨wr.heap.size, 0, none⟩) 4 4] (wr.alloc ob) fun r w' => r = .returned (.tuple #[.slice (some ⟨wr.heap.size + 1, 0, none⟩) 4 4, .int .i64 0]) ∧ (wr.alloc ob).alloc (.cells #[.complex .f64 9223372036854775808 0, .complex .f64 9221120237041090561 4607182418800017408, .complex .f64 0 9223372036854775808, .complex .f64 9218868437227405312 9223372036854775808] 36) = w') := fun ob hob => by
        subst hob
        have := row10 wr.heap.size 9223372036854775808 0 0 9223372036854775808 9221120237041090561 4607182418800017408 9218868437227405312 9223372036854775808 (wr.alloc (.cells #[.complex .f64 9223372036854775808 0, .complex .f64 0 9223372036854775808, .complex .f64 9221120237041090561 4607182418800017408, .complex .f64 9218868437227405312 9223372036854775808] 36)) (HT.out.gr (hg.out.alloc _)) (by simp) (by simp) (by simp) (by simp)
        rw [show (wr.alloc (.cells #[.complex .f64 9223372036854775808 0, .complex .f64 0 9223372036854775808, .complex .f64 9221120237041090561 4607182418800017408, .complex .f64 9218868437227405312 9223372036854775808] 36)).heap.size = wr.heap.size + 1 by simp] at this
        exact this.mono fun r w' h => ⟨h.1, h.2.symm⟩
      have G := hg
      go_wp2_with (first | (go_at_call 10; (with_reducible refine (T10a.out _ G.out).mono ?_); rintro r w1 ⟨rfl, rfl⟩) | (go_at_call 10; (with_reducible refine (T10b.out _ G.out).mono ?_); rintro r w1 ⟨rfl, rfl⟩) | (go_at_call 5; (with_reducible refine (R5n.out _).mono ?_); rintro r w1 ⟨rfl, rfl⟩) | (go_at_call 11; (with_reducible refine (CS.out _).mono ?_); rintro r w1 ⟨rfl, rfl⟩) | (go_at_call 12; (with_reducible refine (NA.out _).mono ?_); rintro r w1 ⟨rfl, rfl⟩) | (go_at_call 13; (with_reducible refine (IN.out _).mono ?_); rintro r w1 ⟨rfl, rfl⟩) | (go_at_call 5; (with_reducible refine (R5o.out _ rfl).mono ?_); rintro r w1 ⟨rfl, rfl⟩))
      have hA := blkN wr (.cells #[.complex .f64 9223372036854775808 0, .complex .f64 0 9223372036854775808, .complex .f64 9221120237041090561 4607182418800017408, .complex .f64 9218868437227405312 9223372036854775808] 36)
      have gB := (Gr.refl (wr.alloc (.cells #[.complex .f64 9223372036854775808 0, .complex .f64 0 9223372036854775808, .complex .f64 9221120237041090561 4607182418800017408, .complex .f64 9218868437227405312 9223372036854775808] 36))).alloc (.cells #[.complex .f64 9223372036854775808 0, .complex .f64 9221120237041090561 4607182418800017408, .complex .f64 0 9223372036854775808, .complex .f64 9218868437227405312 9223372036854775808] 36)
      have k0 := gB.keep (show (wr.alloc (.cells #[.complex .f64 9223372036854775808 0, .complex .f64 0 9223372036854775808, .complex .f64 9221120237041090561 4607182418800017408, .complex .f64 9218868437227405312 9223372036854775808] 36)).cell? ⟨wr.heap.size, 0, none⟩ = some (.complex .f64 9223372036854775808 0) by (simp only [World.cell?, hA]; rfl))
      have k1 := gB.keep (show (wr.alloc (.cells #[.complex .f64 9223372036854775808 0, .complex .f64 0 9223372036854775808, .complex .f64 9221120237041090561 4607182418800017408, .complex .f64 9218868437227405312 9223372036854775808] 36)).cell? ⟨wr.heap.size, 1, none⟩ = some (.complex .f64 0 9223372036854775808) by (simp only [World.cell?, hA]; rfl))
      have k2 := gB.keep (show (wr.alloc (.cells #[.complex .f64 9223372036854775808 0, .complex .f64 0 9223372036854775808, .complex .f64 9221120237041090561 4607182418800017408, .complex .f64 9218868437227405312 9223372036854775808] 36)).cell? ⟨wr.heap.size, 2, none⟩ = some (.complex .f64 9221120237041090561 4607182418800017408) by (simp only [World.cell?, hA]; rfl))
      have k3 := gB.keep (show (wr.alloc (.cells #[.complex .f64 9223372036854775808 0, .complex .f64 0 9223372036854775808, .complex .f64 9221120237041090561 4607182418800017408, .complex .f64 9218868437227405312 9223372036854775808] 36)).cell? ⟨wr.heap.size, 3, none⟩ = some (.complex .f64 9218868437227405312 9223372036854775808) by (simp only [World.cell?, hA]; rfl))
      have CL : CR ((wr.alloc (.cells #[.complex .f64 9223372036854775808 0, .complex .f64 0 9223372036854775808, .complex .f64 9221120237041090561 4607182418800017408, .complex .f64 9218868437227405312 9223372036854775808] 36)).alloc (.cells #[.complex .f64 9223372036854775808 0, .complex .f64 9221120237041090561 4607182418800017408, .complex .f64 0 9223372036854775808, .complex .f64 9218868437227405312 9223372036854775808] 36)) (some ⟨wr.heap.size + 1, 0, none⟩) 4 4 [(9223372036854775808, 0), (9221120237041090561, 4607182418800017408), (0, 9223372036854775808), (9218868437227405312, 9223372036854775808)] := by
        have := cr4 (wr.alloc (.cells #[.complex .f64 9223372036854775808 0, .complex .f64 0 9223372036854775808, .complex .f64 9221120237041090561 4607182418800017408, .complex .f64 9218868437227405312 9223372036854775808] 36)) 9223372036854775808 0 9221120237041090561 4607182418800017408 0 9223372036854775808 9218868437227405312 9223372036854775808
        rw [show (wr.alloc (.cells #[.complex .f64 9223372036854775808 0, .complex .f64 0 9223372036854775808, .complex .f64 9221120237041090561 4607182418800017408, .complex .f64 9218868437227405312 9223372036854775808] 36)).heap.size = wr.heap.size + 1 by simp] at this
        exact this
      have GW := hide ((hg.out.alloc (.cells #[.complex .f64 9223372036854775808 0, .complex .f64 0 9223372036854775808, .complex .f64 9221120237041090561 4607182418800017408, .complex .f64 9218868437227405312 9223372036854775808] 36)).alloc (.cells #[.complex .f64 9223372036854775808 0, .complex .f64 9221120237041090561 4607182418800017408, .complex .f64 0 9223372036854775808, .complex .f64 9218868437227405312 9223372036854775808] 36))
      have HCL := hide CL
      clear hA gB CL R5o
      generalize (wr.alloc (.cells #[.complex .f64 9223372036854775808 0, .complex .f64 0 9223372036854775808, .complex .f64 9221120237041090561 4607182418800017408, .complex .f64 9218868437227405312 9223372036854775808] 36)).alloc (.cells #[.complex .f64 9223372036854775808 0, .complex .f64 9221120237041090561 4607182418800017408, .complex .f64 0 9223372036854775808, .complex .f64 9218868437227405312 9223372036854775808] 36) = W at *
      generalize wr.heap.size = bo at *
      have hS0 : (W.drew.cell? ⟨bo, 0, none⟩ = some (.complex .f64 9223372036854775808 0) ∧ W.drew.cell? ⟨bo, 1, none⟩ = some (.complex .f64 0 9223372036854775808) ∧ W.drew.cell? ⟨bo, 2, none⟩ = some (.complex .f64 9221120237041090561 4607182418800017408) ∧ W.drew.cell? ⟨bo, 3, none⟩ = some (.complex .f64 9218868437227405312 9223372036854775808)) ∧ Gr W W.drew := ⟨⟨k0, k1, k2, k3⟩, (Gr.refl W).drew⟩
      have S8d : Hid (Calls Tryd.prog 8 #[.slice (some ⟨bo + 1, 0, none⟩) 4 4, .slice (some ⟨W.heap.size, 0, none⟩) 4 4] (W.alloc (.cells #[.complex .f64 9223372036854775808 0, .complex .f64 9221120237041090561 4607182418800017408, .complex .f64 0 9223372036854775808, .complex .f64 9218868437227405312 9223372036854775808] 36)).drew fun r w' => r = .returned (.bool true) ∧ Gr (W.alloc (.cells #[.complex .f64 9223372036854775808 0, .complex .f64 9221120237041090561 4607182418800017408, .complex .f64 0 9223372036854775808, .complex .f64 9218868437227405312 9223372036854775808] 36)).drew w') := sameR8 _ _ 4 4 4 _ _ (by omega) ((HCL.out.gr ((Gr.refl W).alloc _)).gr (Gr.refl _).drew) ((cr4 W 9223372036854775808 0 9221120237041090561 4607182418800017408 0 9223372036854775808 9218868437227405312 9223372036854775808).gr (Gr.refl _).drew)
      clear k0 k1 k2 k3
      go_region_held3 (fun w' => (w'.cell? ⟨bo, 0, none⟩ = some (.complex .f64 9223372036854775808 0) ∧ w'.cell? ⟨bo, 1, none⟩ = some (.complex .f64 0 9223372036854775808) ∧ w'.cell? ⟨bo, 2, none⟩ = some (.complex .f64 9221120237041090561 4607182418800017408) ∧ w'.cell? ⟨bo, 3, none⟩ = some (.complex .f64 9218868437227405312 9223372036854775808)) ∧ Gr W w') (first | (with_reducible assumption) | (exact keep4 ((Gr.refl _).alloc _) (by with_reducible assumption)) | (apply keep4; (with_reducible assumption); (with_reducible assumption))) (first | (go_at_call 8; (with_reducible refine S8d.out.mono ?_); rintro r w8 ⟨rfl, g8⟩) | (go_at_call 14; (with_reducible refine (AW.out _ (GW.out.trans ?gg)).mono ?_); (case gg => exact And.right ‹_ ∧ Gr W _›); rintro r w9 ⟨rfl, g9⟩))
      go_wp2
      go_ret
      exact ⟨rfl, GW.out.trans (And.right ‹_ ∧ Gr W w9›)⟩
end Go.Proofs.YtbhaebemaggjfaaDoor
