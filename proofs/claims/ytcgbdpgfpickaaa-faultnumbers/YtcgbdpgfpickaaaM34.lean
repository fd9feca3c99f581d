import Derived.Test.YtcgbdpgfpickaaaM33
import Derived.LoopTactic
import Derived.Deep.RegionHeld3
namespace Go.Proofs.Ytcgbdpgfpickaaa.Fl
open Go.RowKit
open Ieee
set_option linter.unusedVariables false

/-! THE SINGLE CALLS OF FaultNumbers -/
theorem b1 : DirUp (M (uB.getD 2 0) * M (sqT.getD 2 0)) U 4406772235382030336 := dirUp_of (by decide +kernel)
theorem b2 : DirUp (M 4406772235382030336 * M 8660422083433463808) U 8460011900015476736 := dirUp_of (by decide +kernel)
theorem b3 : DirUp (M 8460011900015476736 * M 8660422083433463808) U 9218868437227405312 := ⟨Nat.le_refl _, fun h => absurd h (by omega), fun _ => of_decide_eq_true (by decide +kernel)⟩
theorem b4 : DirUp (M 9218868437227405312 + M 103582791429521408) 1 9218868437227405312 := ⟨Nat.le_refl _, fun h => absurd h (by omega), fun _ => of_decide_eq_true (by decide +kernel)⟩
theorem b5 : DirUp (M (uB.getD 10 0) * M (sqT.getD 10 0)) U 4469259680211795968 := dirUp_of (by decide +kernel)
theorem b6 : DirUp (M 4469259680211795968 * M 4679240012837945344) U 4541317274249723904 := dirUp_of (by decide +kernel)
theorem b7 : DirUp (M 4541317274249723904 * M 4679240012837945344) U 4613374868287651840 := dirUp_of (by decide +kernel)
theorem b8 : DirUp (M 4613374868287651840 + M 103582791429521408) 1 4613374868287651841 := dirUp_of (by decide +kernel)
theorem b9 : DirUp (M (uA.getD 0 0) * M 4619567317775286272) U 0 := ⟨by omega, fun _ => of_decide_eq_true (by decide +kernel), fun h => absurd h (by omega)⟩
theorem b10 : DirUp (M 0 + M 103582791429521408) 1 103582791429521408 := dirUp_of (by decide +kernel)
theorem cA (x : Nat) (w : World) : Calls Try.prog 9 #[.int .i64 (-1), .float .f64 x] w fun e w' => e = .returned (.tuple #[.float .f64 0, .int .i64 2]) ∧ Gr w w' := turnA (-1) x w (by omega)
theorem cB (w : World) : Calls Try.prog 9 #[.int .i64 3, .float .f64 13830554455654793216] w fun e w' => e = .returned (.tuple #[.float .f64 0, .int .i64 5]) ∧ Gr w w' := turnR 3 true 4607182418800017408 w (by omega) (by omega) (fun h => absurd (h.2 rfl) (by omega))
theorem cC (w : World) : Calls Try.prog 9 #[.int .i64 3, .float .f64 8664925683060834304] w fun e w' => e = .returned (.tuple #[.float .f64 0, .int .i64 6]) ∧ Gr w w' := turnO 3 false 8664925683060834304 w (by omega) (by omega) (fun h => by cases h) (by omega)
theorem cD (w : World) : Calls Try.prog 11 #[.int .i64 2, .float .f64 8660422083433463808, .float .f64 8660422083433463808] w fun e w' => e = .returned (.tuple #[.float .f64 0, .int .i64 6]) ∧ Gr w w' := by
  refine (ringP 2 false false 8660422083433463808 8660422083433463808 w (by omega) (by omega) (fun h => by cases h) (by omega) (fun h => by cases h)).mono ?_
  rintro e w' ⟨⟨q, q2, g1, g2, rfl⟩, g⟩
  obtain rfl := ring_one g1 ⟨_, _, b1, b2, b3, by omega, by omega⟩
  obtain rfl := dirUp_one (by omega) g2 b4
  exact ⟨rfl, g⟩
theorem cE (w : World) : Calls Try.prog 11 #[.int .i64 2, .float .f64 4607182418800017408, .float .f64 9221120237041090561] w fun e w' => e = .returned (.tuple #[.float .f64 0, .int .i64 5]) ∧ Gr w w' := ringR 2 false false 4607182418800017408 9221120237041090561 w (by omega) (by omega) (by omega) (Or.inr fun h => absurd h.1 (by omega))
theorem cF (w : World) : Calls Try.prog 11 #[.int .i64 10, .float .f64 4679240012837945344, .float .f64 4679240012837945344] w fun e w' => e = .returned (.tuple #[.float .f64 4613374868287651841, .int .i64 0]) ∧ Gr w w' := by
  refine (ringP 10 false false 4679240012837945344 4679240012837945344 w (by omega) (by omega) (fun h => by cases h) (by omega) (fun h => by cases h)).mono ?_
  rintro e w' ⟨⟨q, q2, g1, g2, rfl⟩, g⟩
  obtain rfl := ring_one g1 ⟨_, _, b5, b6, b7, by omega, by omega⟩
  obtain rfl := dirUp_one (by omega) g2 b8
  exact ⟨rfl, g⟩
theorem cG (w : World) : Calls Try.prog 9 #[.int .i64 0, .float .f64 4619567317775286272] w fun e w' => e = .returned (.tuple #[.float .f64 103582791429521408, .int .i64 0]) ∧ Gr w w' := by
  refine (turnP 0 false 4619567317775286272 w (by omega) (by omega) (fun h => by cases h)).mono ?_
  rintro e w' ⟨⟨q2, ⟨q, g1, g2, _⟩, rfl⟩, g⟩
  obtain rfl := dirUp_one U_pos g1 b9
  obtain rfl := dirUp_one (by omega) g2 b10
  exact ⟨rfl, g⟩
theorem nan16 (w : World) : Calls Try.prog 16 #[] w fun e w' => e = .returned (.float .f64 9221120237041090561) ∧ w' = w := by
  have b2 := from13
  go_enter Try.func16, Try.ntmps16
  go_wp2
  go_ret
  exact ⟨rfl, rfl⟩
theorem n900 (w : World) : Calls Try.prog 15 #[.float .f64 8660422083433463808, .float .f64 8664925683060834304] w fun e w' => e = .returned (.float .f64 8660422083433463809) ∧ w' = w :=
  next_i 8660422083433463808 8664925683060834304 w (by omega) (by decide +kernel) (by decide +kernel) (by decide +kernel) (by decide +kernel) (by decide +kernel) (by decide +kernel)
/-- the fifteen sizes -/
def szT : List Nat := [0, 9223372036854775808, 4607182418800017408, 1, 8660422083433463808, 8660422083433463809, 553942754166571008, 13830554455654793216, 9223372036854775809, 9221120237041090561, 9218868437227405312, 18442240474082181120, 4845873199050653696, 4591870180066957722, 4613937818241073152]
theorem sz_all : szT.all (fun x => decide (x < 18446744073709551616)) = true := by decide +kernel
theorem tellsN (o : Int) (x y : Nat) (w : World) (hx : x < 18446744073709551616) (hy : y < 18446744073709551616) :
    Calls Try.prog 3 #[.int .i64 o, .float .f64 x, .float .f64 y] w fun e w' => e = .returned (.bool true) ∧ Gr w w' := by
  obtain ⟨s, r, rfl, hr⟩ := W_split x hx
  obtain ⟨t, q, rfl, hq⟩ := W_split y hy
  exact tells3 o s t r q w hr hq
theorem sz_at (j : Nat) : szT.getD j 0 < 18446744073709551616 := by
  by_cases h : j < szT.length
  · have h1 := List.all_eq_true.1 sz_all (szT.getD j 0) (by rw [List.getD_eq_getElem?_getD, List.getElem?_eq_getElem h]; exact List.getElem_mem h)
    simpa using h1
  · rw [List.getD_eq_getElem?_getD, List.getElem?_eq_none (by omega)]
    exact (by decide : (0 : Nat) < 18446744073709551616)
end Go.Proofs.Ytcgbdpgfpickaaa.Fl
namespace Go.Proofs.Ytcgbdpgfpickaaa.Fl
open Go.RowKit
open Ieee
set_option linter.unusedVariables false

theorem keepN {W wo wn : World} {b i j : Nat} {x y : Value} (g : Gr wo wn) (h : (wo.cell? ⟨b, i, none⟩ = some x ∧ wo.cell? ⟨b, j, none⟩ = some y) ∧ Gr W wo) : (wn.cell? ⟨b, i, none⟩ = some x ∧ wn.cell? ⟨b, j, none⟩ = some y) ∧ Gr W wn := ⟨⟨g.keep h.1.1, g.keep h.1.2⟩, h.2.trans g⟩
set_option maxRecDepth 10000 in
set_option maxHeartbeats 4000000 in
theorem sz_cells (w : World) (T : TypeId) : ∀ j, j < 15 → (w.alloc (.cells #[.float .f64 0, .float .f64 9223372036854775808, .float .f64 4607182418800017408, .float .f64 1, .float .f64 8660422083433463808, .float .f64 8660422083433463809, .float .f64 553942754166571008, .float .f64 13830554455654793216, .float .f64 9223372036854775809, .float .f64 9221120237041090561, .float .f64 9218868437227405312, .float .f64 18442240474082181120, .float .f64 4845873199050653696, .float .f64 4591870180066957722, .float .f64 4613937818241073152] T)).cell? ⟨w.heap.size, j, none⟩ = some (.float .f64 (szT.getD j 0)) := by
  intro j hj
  unfold World.cell?
  rw [blkU]
  rcases (show j = 0 ∨ j = 1 ∨ j = 2 ∨ j = 3 ∨ j = 4 ∨ j = 5 ∨ j = 6 ∨ j = 7 ∨ j = 8 ∨ j = 9 ∨ j = 10 ∨ j = 11 ∨ j = 12 ∨ j = 13 ∨ j = 14 by omega) with rfl | rfl | rfl | rfl | rfl | rfl | rfl | rfl | rfl | rfl | rfl | rfl | rfl | rfl | rfl <;> rfl
set_option maxRecDepth 10000 in
set_option maxHeartbeats 4000000 in
theorem numbers4 (w : World) : Calls Try.prog 4 #[] w fun e w' => e = .returned (.bool true) ∧ Gr w w' := by
  have CA := hide cA
  have CB := hide cB
  have CC := hide cC
  have CD := hide cD
  have CE := hide cE
  have CF := hide cF
  have CG := hide cG
  have AW := hide awake13
  have TL : Hid (∀ (o : Int) (i j : Nat) (w : World), Calls Try.prog 3 #[.int .i64 o, .float .f64 (szT.getD i 0), .float .f64 (szT.getD j 0)] w fun e w' => e = .returned (.bool true) ∧ Gr w w') := fun o i j w => tellsN o _ _ w (sz_at i) (sz_at j)
  go_enter Try.func4, Try.ntmps4
  go_wp2_with (first | (go_at_call 14; with_reducible refine (copy44 _).mono ?_; rintro e w' ⟨rfl, hw'⟩; obtain rfl := hw'.symm) | (go_at_call 15; with_reducible refine (n900 _).mono ?_; rintro e w' ⟨rfl, hw'⟩; obtain rfl := hw'.symm) | (go_at_call 16; with_reducible refine (nan16 _).mono ?_; rintro e w' ⟨rfl, hw'⟩; obtain rfl := hw'.symm) | (go_at_call 17; with_reducible refine (inf51p _).mono ?_; rintro e w' ⟨rfl, hw'⟩; obtain rfl := hw'.symm) | (go_at_call 17; with_reducible refine (inf51m _).mono ?_; rintro e w' ⟨rfl, hw'⟩; obtain rfl := hw'.symm))
  have SC := hide (sz_cells w 22)
  have G0 : Gr w (w.alloc (.cells #[.float .f64 0, .float .f64 9223372036854775808, .float .f64 4607182418800017408, .float .f64 1, .float .f64 8660422083433463808, .float .f64 8660422083433463809, .float .f64 553942754166571008, .float .f64 13830554455654793216, .float .f64 9223372036854775809, .float .f64 9221120237041090561, .float .f64 9218868437227405312, .float .f64 18442240474082181120, .float .f64 4845873199050653696, .float .f64 4591870180066957722, .float .f64 4613937818241073152] 22)) := (Gr.refl w).alloc _
  generalize w.alloc (.cells #[.float .f64 0, .float .f64 9223372036854775808, .float .f64 4607182418800017408, .float .f64 1, .float .f64 8660422083433463808, .float .f64 8660422083433463809, .float .f64 553942754166571008, .float .f64 13830554455654793216, .float .f64 9223372036854775809, .float .f64 9221120237041090561, .float .f64 9218868437227405312, .float .f64 18442240474082181120, .float .f64 4845873199050653696, .float .f64 4591870180066957722, .float .f64 4613937818241073152] 22) = w0 at *
  generalize w.heap.size = b at *
  go_loopw [2] (fun i wr => ∃ k : Int, -1 ≤ k ∧ k ≤ 16 ∧ i = .int .i64 k ∧ Hid (Gr w0 wr)) (fun i _ => (16 - intOf i).toNat)
  case atStart => exact ⟨-1, by omega, by omega, rfl, Gr.refl _⟩
  case round =>
    obtain ⟨k, k1, k2, rfl, gk⟩ := hrel
    by_cases hk : k ≤ 15
    · go_wp2
      go_loopw [3] (fun i wr' => ∃ m : Nat, m ≤ 15 ∧ i = .int .i64 m ∧ Hid (Gr w0 wr')) (fun i _ => 15 - (intOf i).toNat)
      case atStart => exact ⟨0, by omega, rfl, gk⟩
      case round =>
        obtain ⟨m, m1, rfl, gm⟩ := hrel
        by_cases hm : m < 15
        · go_wp2
          rw [show decide ((m : Int) < 15) = true from decide_eq_true (by omega)]
          go_loopw [4] (fun i wr' => ∃ n : Nat, n ≤ 15 ∧ i = .int .i64 n ∧ Hid (Gr w0 wr')) (fun i _ => 15 - (intOf i).toNat)
          case atStart => exact ⟨0, by omega, rfl, gm⟩
          case round =>
            obtain ⟨n, n1, rfl, gn⟩ := hrel
            by_cases hn : n < 15
            · have hx := gn.out.keep (SC.out m hm)
              have hy := gn.out.keep (SC.out n hn)
              have T1 : Hid (∀ (w : World), Calls Try.prog 3 #[.int .i64 k, .float .f64 (szT.getD m 0), .float .f64 (szT.getD n 0)] w fun e w' => e = .returned (.bool true) ∧ Gr w w') := fun w => TL.out k m n w
              clear CA CB CC CD CE CF CG AW TL
              generalize szT.getD m 0 = x at hx T1
              generalize szT.getD n 0 = y at hy T1
              have S1 : (wr.drew.cell? ⟨b, m, none⟩ = some (.float .f64 x) ∧ wr.drew.cell? ⟨b, n, none⟩ = some (.float .f64 y)) ∧ Gr w0 wr.drew := ⟨⟨hx, hy⟩, gn.out.drew⟩
              go_wp2
              go_region_held3 (fun w' => (w'.cell? ⟨b, m, none⟩ = some (.float .f64 x) ∧ w'.cell? ⟨b, n, none⟩ = some (.float .f64 y)) ∧ Gr w0 w') (first | (with_reducible assumption) | (apply keepN; (with_reducible assumption); (with_reducible assumption))) (first | (go_at_call 3; (with_reducible refine (T1.out _).mono ?_); rintro r w3 ⟨rfl, g3⟩))
              go_wp2
              go_roundw
              case rel => exact ⟨n + 1, by omega, by go_num, gn.out.drew.trans g3⟩
              case measure => simp only [intOf]; omega
            · go_wp2
              go_roundw
              case rel => exact ⟨m + 1, by omega, by go_num, gn⟩
              case measure => simp only [intOf]; omega
        · go_wp2
          go_roundw
          case rel => exact ⟨k + 1, by omega, by omega, by go_num, gm⟩
          case measure => simp only [intOf]; omega
    · have h27 : (FloatKind.f64.format.order 4613374868287651841 4613262278296967578 == some .gt) = true := by decide +kernel
      have hEE : (FloatKind.f64.format.order 103582791429521408 103582791429521408 == some .eq) = true := by decide +kernel
      clear TL SC
      go_wp2_with (first | (go_at_call 16; with_reducible refine (nan16 _).mono ?_; rintro e w' ⟨rfl, hw'⟩; obtain rfl := hw'.symm) | (go_at_call 9; with_reducible refine (CA.out _ _).mono ?_; rintro e w1 ⟨rfl, g1⟩) | (go_at_call 9; with_reducible refine (CB.out _).mono ?_; rintro e w2 ⟨rfl, g2⟩) | (go_at_call 9; with_reducible refine (CC.out _).mono ?_; rintro e w3 ⟨rfl, g3⟩) | (go_at_call 11; with_reducible refine (CD.out _).mono ?_; rintro e w4 ⟨rfl, g4⟩) | (go_at_call 11; with_reducible refine (CE.out _).mono ?_; rintro e w5 ⟨rfl, g5⟩) | (go_at_call 11; with_reducible refine (CF.out _).mono ?_; rintro e w6 ⟨rfl, g6⟩) | (go_at_call 9; with_reducible refine (CG.out _).mono ?_; rintro e w7 ⟨rfl, g7⟩) | (go_at_call 13; with_reducible refine (AW.out _).mono ?_; rintro e w8 ⟨rfl, g8⟩))
      go_ret
      exact ⟨rfl, ((((((((G0.trans gk.out).trans g1).trans g2).trans g3).trans g4).trans g5).trans g6).trans g7).trans g8⟩
end Go.Proofs.Ytcgbdpgfpickaaa.Fl
