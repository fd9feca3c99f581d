import Derived.Test.YtfgaifbnhdgkgaaDoorM39
import Derived.Test.YtfgaifbnhdgkgaaDoorM15
import Derived.Deep.QuietTactic
import Derived.BigQuiet
import Derived.Test.YtfgaifbnhdgkgaaDoorRows
import Derived.WalkKit
import Derived.ProofKit
import Derived.OpenShut
import Derived.LaidMore
import Derived.Stop.Joined
import Derived.Laws.Cover2
import Derived.ChangeSlices
import Derived.Carry
import Derived.Deep.Strs
namespace Go.Proofs.YtfgaifbnhdgkgaaDoor
open Go.RowKit
open Ieee
set_option linter.unusedVariables false

/-! WheelSteep -/
def fo (a b : Nat) : Option Ordering := FloatKind.f64.format.order a b
def stOK (p i : Nat) : Bool :=
  (fo (tv T7 p i).1 13830554455654793216 == some .gt || fo (tv T7 p i).1 13830554455654793216 == some .eq) &&
  (fo (tv T7 p i).1 4607182418800017408 == some .lt || fo (tv T7 p i).1 4607182418800017408 == some .eq) &&
  (fo (tv T7 p i).2 13830554455654793216 == some .gt || fo (tv T7 p i).2 13830554455654793216 == some .eq) &&
  (fo (tv T7 p i).2 4607182418800017408 == some .lt || fo (tv T7 p i).2 4607182418800017408 == some .eq) &&
  (decide ((tv T7 p i).1 = 0) || !(fo (tv T7 p i).1 0 == some .eq)) && (decide ((tv T7 p i).2 = 0) || !(fo (tv T7 p i).2 0 == some .eq)) &&
  !decide ((tv T7 p i).1 = 0 ∧ (tv T7 p i).2 = 0) &&
  (!decide (4 * i < 2 ^ p) || !decide (0 < i) || (fo (tv T7 p i).1 (tv T7 p (i - 1)).1 == some .lt && fo (tv T7 p i).2 (tv T7 p (i - 1)).2 == some .gt))
theorem st_all : (List.range 8).all (fun p => (List.range (2 ^ p)).all fun i => stOK p i) = true := by decide +kernel
theorem rowN (p : Nat) (w : World) (hp : p ≤ 7) (hT : TabAt 1 Lib.deBruijn64tab w) : Calls Tryd.prog 7 #[.int .i64 (p : Int)] w fun r w' => ∃ g n, w.heap.size ≤ g ∧ r = .returned (.tuple #[.slice (some ⟨g, 0, none⟩) n n, .int .i64 0]) ∧ w'.ownsRow g 30 1 (.slice (some ⟨g, 0, none⟩) n n) n (cz (rw7 T7 p n)) ∧ Gr w w' ∧ Hid (n = 2 ^ p) ∧ wrap64 ((2 : Int) ^ p) = (n : Int) ∧ n ≤ 128 := by
  refine (rowE p w hp hT).mono ?_
  rintro r w' ⟨g, h1, h2, h3, h4⟩
  refine ⟨g, _, h1, h2, h3, h4, rfl, ?_⟩
  rcases (show p = 0 ∨ p = 1 ∨ p = 2 ∨ p = 3 ∨ p = 4 ∨ p = 5 ∨ p = 6 ∨ p = 7 by omega) with rfl | rfl | rfl | rfl | rfl | rfl | rfl | rfl <;> exact ⟨by decide +kernel, by omega⟩
theorem rw7_at (p n i : Nat) (h : i < n) : (rw7 T7 p n).getD i (0, 0) = tv T7 p i := by
  unfold rw7
  rw [List.getD_eq_getElem?_getD, List.getElem?_map, List.getElem?_range h]
  rfl
set_option maxRecDepth 40000 in
set_option maxHeartbeats 3200000 in
theorem steepE (x : Int) (w : World) (hT : TabAt 1 Lib.deBruijn64tab w) : Calls Tryd.prog 4 #[.int .i64 x] w fun r w' => r = .returned (.bool true) ∧ Gr w w' := by
  have AW := hide (awakeE w hT)
  have PK := hide (fun w1 => pick8 x w1)
  have RW := hide (fun p w1 (hp : p ≤ 7) (g : Gr w w1) => rowN p w1 hp (tab_gr hT g))
  clear hT
  go_enter Tryd.func4, Tryd.ntmps4
  go_wp2_with (first | (go_at_call 5; (with_reducible refine AW.out.mono ?_); rintro r w1 ⟨rfl, g1⟩) | (go_at_call 6; (with_reducible refine (PK.out _).mono ?_); rintro r w2 ⟨p, rfl, hp, rfl⟩) | (go_at_call 7; (with_reducible refine (RW.out _ _ hp g1).mono ?_); rintro r w3 ⟨g, n, hg0, rfl, hl, g3, HN, en, hn1⟩))
  have G3 : Hid (Gr w w3) := g1.trans g3
  have HL := hide hl
  clear hl g1 g3 hg0
  rw [en]
  clear en
  go_loopw [6] (fun i wr => ∃ j : Nat, j ≤ n ∧ i = .int .i64 (j : Int) ∧ Hid (Gr w3 wr)) (fun i _ => n - (intOf i).toNat)
  case atStart => exact ⟨0, by omega, rfl, Gr.refl _⟩
  case round =>
    obtain ⟨j, hj, rfl, hg⟩ := hrel
    by_cases hlt : j < n
    · have i1 : (j : Int) < (n : Int) := by omega
      have k1 := ownsC_cell (hg.out.owns HL.out) j hlt
      rw [rw7_at p n j hlt] at k1
      have st := List.all_eq_true.1 (List.all_eq_true.1 st_all p (List.mem_range.2 (by omega))) j (List.mem_range.2 (by have := HN.out; omega))
      unfold stOK at st
      have k2 : j - 1 < n → wr.cell? ⟨g, j - 1, none⟩ = some (.complex .f64 (tv T7 p (j - 1)).1 (tv T7 p (j - 1)).2) := fun h => by
        have h2 := ownsC_cell (hg.out.owns HL.out) (j - 1) h
        rw [rw7_at p n (j - 1) h] at h2
        exact h2
      generalize (tv T7 p j).1 = a at *
      generalize (tv T7 p j).2 = b at *
      generalize (tv T7 p (j - 1)).1 = a' at *
      generalize (tv T7 p (j - 1)).2 = b' at *
      simp only [Bool.and_eq_true] at st
      obtain ⟨⟨⟨⟨⟨⟨⟨s1, s2⟩, s3⟩, s4⟩, s5⟩, s6⟩, s8⟩, s7⟩ := st
      have s8 : ¬ (a = 0 ∧ b = 0) := by rintro ⟨h1, h2⟩; simp [h1, h2] at s8
      unfold fo at *
      have zc : (a = 0 ∧ (FloatKind.f64.format.order b 0 == some .eq) = false) ∨ ((FloatKind.f64.format.order a 0 == some .eq) = false ∧ b = 0) ∨ ((FloatKind.f64.format.order a 0 == some .eq) = false ∧ (FloatKind.f64.format.order b 0 == some .eq) = false) := by
        simp only [Bool.or_eq_true, decide_eq_true_eq, Bool.not_eq_true'] at s5 s6
        rcases s5 with h | h <;> rcases s6 with h' | h'
        · exact absurd ⟨h, h'⟩ s8
        · exact Or.inl ⟨h, h'⟩
        · exact Or.inr (Or.inl ⟨h, h'⟩)
        · exact Or.inr (Or.inr ⟨h, h'⟩)
      have sc : (¬ 4 * (j : Int) < (n : Int)) ∨ (4 * (j : Int) < (n : Int) ∧ ¬ (j : Int) > 0) ∨ (4 * (j : Int) < (n : Int) ∧ (j : Int) > 0 ∧ wr.cell? ⟨g, j - 1, none⟩ = some (.complex .f64 a' b') ∧ (FloatKind.f64.format.order a a' == some .lt) = true ∧ (FloatKind.f64.format.order b b' == some .gt) = true) := by
        by_cases h4 : 4 * j < n
        · by_cases h0 : 0 < j
          · refine Or.inr (Or.inr ⟨by omega, by omega, k2 (by omega), ?_⟩)
            rw [← HN.out, decide_eq_true h4, decide_eq_true h0] at s7
            simpa using s7
          · exact Or.inr (Or.inl ⟨by omega, by omega⟩)
        · exact Or.inl (by omega)
      have ew : IntKind.i64.wrap (4 * (j : Int)) = 4 * (j : Int) := by rw [IntKind.wrap_i64]; omega
      have o0 : (FloatKind.f64.format.order 0 0 == some .eq) = true := by decide +kernel
      clear k2 s5 s6 s7 s8
      rcases zc with ⟨rfl, nb⟩ | ⟨na, rfl⟩ | ⟨na, nb⟩
      all_goals rcases sc with h4 | ⟨h4, h5⟩ | ⟨h4, h5, k2, q1, q2⟩
      all_goals
        go_wp2
        go_region
        go_wp2_with (go_at_call 15; (with_reducible refine (sameF _ _).mono ?_); rintro r w9 ⟨rfl, rfl⟩)
        go_roundw
        case rel => exact ⟨j + 1, by omega, by go_num, hg.out.drew⟩
        case measure => simp only [intOf]; omega
    · have i1 : ¬ (j : Int) < (n : Int) := by omega
      go_wp2
      go_ret
      exact ⟨rfl, G3.out.trans hg.out⟩
end Go.Proofs.YtfgaifbnhdgkgaaDoor
namespace Go.Proofs.YtfgaifbnhdgkgaaDoor
open Go.RowKit
open Ieee
set_option linter.unusedVariables false

/-! WheelTurned: WHAT IT HOLDS AGAINST EACH OTHER -/
theorem likeF (x y : Nat) (w : World) (h : (FloatKind.f64.format.order x y == some .eq) = true) : Calls Tryd.prog 19 #[.float .f64 x, .float .f64 y] w fun e w' => e = .returned (.bool true) ∧ w' = w := by
  go_enter Tryd.func19, Tryd.ntmps19
  go_wp2
  go_ret
  exact ⟨rfl, rfl⟩
theorem likeN (x y x' y' : Nat) (w : World) (h1 : (FloatKind.f64.format.order x x' == some .eq) = true) (h2 : (FloatKind.f64.format.order y y' == some .eq) = true) : Calls Tryd.prog 10 #[.complex .f64 x y, .complex .f64 x' y'] w fun e w' => e = .returned (.bool true) ∧ w' = w := by
  have L1 := hide (fun w => likeF x x' w h1)
  have L2 := hide (fun w => likeF y y' w h2)
  clear h1 h2
  go_enter Tryd.func10, Tryd.ntmps10
  go_wp2_with (go_at_call 19; first | ((with_reducible refine (L1.out _).mono ?_); rintro r w1 ⟨rfl, rfl⟩) | ((with_reducible refine (L2.out _).mono ?_); rintro r w1 ⟨rfl, rfl⟩))
  go_ret
  exact ⟨rfl, rfl⟩
theorem conjE (x y : Nat) (w : World) : Calls Tryd.prog 11 #[.complex .f64 x y] w fun r w' => r = .returned (.complex .f64 x (abW y)) ∧ w' = w := by
  go_enter Tryd.func11, Tryd.ntmps11
  go_wp2_with (go_at_call 20; (with_reducible refine (aboutE _ _).mono ?_); rintro r w1 ⟨rfl, rfl⟩)
  go_ret
  exact ⟨rfl, rfl⟩
theorem turn1 (x y : Nat) (w : World) : Calls Tryd.prog 12 #[.complex .f64 x y, .int .i64 1] w fun r w' => r = .returned (.complex .f64 (abW y) x) ∧ w' = w := pturn 1 x y w (by omega)
theorem pickM (x : Int) (w : World) : Calls Tryd.prog 6 #[.int .i64 x, .int .i64 1048576] w fun r w' => ∃ p : Int, r = .returned (.int .i64 p) ∧ 0 ≤ p ∧ p ≤ 1048575 ∧ w' = w := by
  have b1 : -1048576 < x.tmod 1048576 := by have := Int.lt_tmod_of_pos x (by omega : (0 : Int) < 1048576); omega
  have b2 : x.tmod 1048576 < 1048576 := Int.tmod_lt_of_pos x (by omega)
  have h8 : ((1048576 : Int) == 0) = false := by decide
  generalize hy : x.tmod 1048576 = y at *
  by_cases hn : y < 0
  · go_enter Tryd.func6, Tryd.ntmps6
    go_wp2
    go_ret
    exact ⟨_, rfl, by omega, by omega, rfl⟩
  · go_enter Tryd.func6, Tryd.ntmps6
    go_wp2
    go_ret
    exact ⟨_, rfl, by omega, by omega, rfl⟩
def tuOK (p i : Nat) : Bool :=
  (fo (tv T7 p ((2 ^ p - i) % 2 ^ p)).1 (tv T7 p i).1 == some .eq) && (fo (tv T7 p ((2 ^ p - i) % 2 ^ p)).2 (abW (tv T7 p i).2) == some .eq) &&
  (decide (2 ^ p < 4) || ((fo (tv T7 p ((i + 2 ^ p / 4) % 2 ^ p)).1 (abW (tv T7 p i).2) == some .eq) && (fo (tv T7 p ((i + 2 ^ p / 4) % 2 ^ p)).2 (tv T7 p i).1 == some .eq))) &&
  (decide (2 ^ p < 8) || decide (2 ^ p / 4 < i) || decide (tv T7 p (2 ^ p / 4 - i) = ((tv T7 p i).2, (tv T7 p i).1))) &&
  (decide (p = 0) || decide (2 ^ p / 2 ≤ i) || decide (tv T7 (p - 1) i = tv T7 p (2 * i)))
theorem tu_all : (List.range 8).all (fun p => (List.range (2 ^ p)).all fun i => tuOK p i) = true := by decide +kernel
theorem halfN (p : Nat) (w : World) (hp : p ≤ 7) (hT : TabAt 1 Lib.deBruijn64tab w) : Calls Tryd.prog 13 #[.int .i64 (p : Int)] w fun r w' => ∃ g m, w.heap.size ≤ g ∧ r = .returned (.tuple #[.slice (some ⟨g, 0, none⟩) m m, .int .i64 0]) ∧ w'.ownsRow g 30 1 (.slice (some ⟨g, 0, none⟩) m m) m (cz (rw7 T7 p m)) ∧ Gr w w' ∧ Hid (m = max (2 ^ p / 2) 1) ∧ m ≤ 128 := by
  rcases (show p = 0 ∨ p = 1 ∨ p = 2 ∨ p = 3 ∨ p = 4 ∨ p = 5 ∨ p = 6 ∨ p = 7 by omega) with rfl | rfl | rfl | rfl | rfl | rfl | rfl | rfl
  · exact (half0 w hT).mono fun r w' ⟨g, h1, h2, h3, h4⟩ => ⟨g, _, h1, h2, h3, h4, (show _ = _ from rfl), by omega⟩
  · exact (half1 w hT).mono fun r w' ⟨g, h1, h2, h3, h4⟩ => ⟨g, _, h1, h2, h3, h4, (show _ = _ from rfl), by omega⟩
  · exact (half2 w hT).mono fun r w' ⟨g, h1, h2, h3, h4⟩ => ⟨g, _, h1, h2, h3, h4, (show _ = _ from rfl), by omega⟩
  · exact (half3 w hT).mono fun r w' ⟨g, h1, h2, h3, h4⟩ => ⟨g, _, h1, h2, h3, h4, (show _ = _ from rfl), by omega⟩
  · exact (half4 w hT).mono fun r w' ⟨g, h1, h2, h3, h4⟩ => ⟨g, _, h1, h2, h3, h4, (show _ = _ from rfl), by omega⟩
  · exact (half5 w hT).mono fun r w' ⟨g, h1, h2, h3, h4⟩ => ⟨g, _, h1, h2, h3, h4, (show _ = _ from rfl), by omega⟩
  · exact (half6 w hT).mono fun r w' ⟨g, h1, h2, h3, h4⟩ => ⟨g, _, h1, h2, h3, h4, (show _ = _ from rfl), by omega⟩
  · exact (half7 w hT).mono fun r w' ⟨g, h1, h2, h3, h4⟩ => ⟨g, _, h1, h2, h3, h4, (show _ = _ from rfl), by omega⟩
end Go.Proofs.YtfgaifbnhdgkgaaDoor
namespace Go.Proofs.YtfgaifbnhdgkgaaDoor
open Go.RowKit
open Ieee
set_option linter.unusedVariables false

/-! WheelTurned -/
theorem quiet2 {P : Program} {f : FuncId} {args : Array Value} {w : World} {k n : Nat} {v : Value} (h : Calls P f args (w.drewN (k + n)) fun e w' => e = .returned v ∧ w' = w.drewN (k + n)) : Calls P f args (w.drewN (k + n)) fun e w'' => e = .returned v ∧ ∃ m, w'' = w.drewN (k + m) := h.mono fun _ _ ⟨he, hm⟩ => ⟨he, n, hm⟩
theorem tv0 (p : Nat) (hp : p ≤ 7) : tv T7 p 0 = (4607182418800017408, 0) := by
  unfold tv
  rw [Nat.zero_mul]
  rfl
set_option maxRecDepth 40000 in
set_option maxHeartbeats 6400000 in
theorem turnedW (x y : Int) (w : World) (hT : TabAt 1 Lib.deBruijn64tab w) : Calls Tryd.prog 3 #[.int .i64 x, .int .i64 y] w fun r w' => r = .returned (.bool true) ∧ Gr w w' := by
  have AW := hide (awakeE w hT)
  have PK := hide (fun w1 => pick8 x w1)
  have PM := hide (fun w1 => pickM y w1)
  have RW := hide (fun p w1 (hp : p ≤ 7) (g : Gr w w1) => rowN p w1 hp (tab_gr hT g))
  have HT := hide hT
  clear hT
  go_enter Tryd.func3, Tryd.ntmps3
  go_wp2_with (first | (go_at_call 5; (with_reducible refine AW.out.mono ?_); rintro r w1 ⟨rfl, g1⟩) | (go_at_call 6; first | ((with_reducible refine (PK.out _).mono ?_); rintro r w2 ⟨p, rfl, hp, hw2⟩; obtain rfl := hw2.symm) | ((with_reducible refine (PM.out _).mono ?_); rintro r wq ⟨t, rfl, ht0, ht1, hwq⟩; obtain rfl := hwq.symm)) | (go_at_call 7; (with_reducible refine (RW.out _ _ hp g1).mono ?_); rintro r w3 ⟨g, n, hg0, rfl, hl, g3, HN, en, hn1⟩; have n0 : (0 : Int) < (n : Int) := (by have := HN.out; have := Nat.two_pow_pos p; omega); have k0 := ownsC_cell hl 0 (by have := HN.out; have := Nat.two_pow_pos p; omega); rw [rw7_at p n 0 (by have := HN.out; have := Nat.two_pow_pos p; omega), tv0 p hp] at k0) | (go_at_call 8; (with_reducible refine (sameN _ _ _).mono ?_); rintro r w4 ⟨rfl, hw4⟩; obtain rfl := hw4.symm))
  have G3 : Hid (Gr w w3) := g1.trans g3
  have HL := hide hl
  clear hl g1 g3 hg0 k0 n0 en
  obtain ⟨S, hS⟩ : ∃ S, S = (n : Int) * (t - 524288) := ⟨_, rfl⟩
  have HS : Hid (S = (n : Int) * (t - 524288)) := hS
  have bS : -67108864 ≤ S ∧ S ≤ 67108864 := by
    rw [hS, HN.out]
    rcases (show p = 0 ∨ p = 1 ∨ p = 2 ∨ p = 3 ∨ p = 4 ∨ p = 5 ∨ p = 6 ∨ p = 7 by omega) with rfl | rfl | rfl | rfl | rfl | rfl | rfl | rfl <;> omega
  have ewm : IntKind.i64.wrap ((n : Int) * (t - 524288)) = S := by rw [IntKind.wrap_i64, ← hS]; omega
  have bS0 := bS.1
  have bS1 := bS.2
  clear bS hS
  go_loopw [10] (fun i wr => ∃ j : Nat, j ≤ n ∧ i = .int .i64 (j : Int) ∧ Hid (Gr w3 wr)) (fun i _ => n - (intOf i).toNat)
  case atStart => exact ⟨0, by omega, rfl, Gr.refl _⟩
  case round =>
    obtain ⟨j, hj, rfl, hg⟩ := hrel
    by_cases hlt : j < n
    · have i1 : (j : Int) < (n : Int) := by omega
      have hs : ((j : Int) + S) % ((2 ^ p : Nat) : Int) = (j : Int) := by
        rw [HS.out]
        have hlt' := hlt
        rw [HN.out] at hlt' ⊢
        rcases (show p = 0 ∨ p = 1 ∨ p = 2 ∨ p = 3 ∨ p = 4 ∨ p = 5 ∨ p = 6 ∨ p = 7 by omega) with rfl | rfl | rfl | rfl | rfl | rfl | rfl | rfl <;> omega
      have RT := hide (rootE p j ((j : Int) + S) wr (tab_gr HT.out (G3.out.trans hg.out)) hp (by rw [← HN.out]; exact hlt) hs)
      have st := List.all_eq_true.1 (List.all_eq_true.1 tu_all p (List.mem_range.2 (by omega))) j (List.mem_range.2 (by have := HN.out; omega))
      unfold tuOK at st
      rw [← HN.out] at st
      have KC : Hid (∀ w5, Gr wr w5 → ∀ m, m < n → w5.cell? ⟨g, m, none⟩ = some (.complex .f64 (tv T7 p m).1 (tv T7 p m).2)) := fun w5 g5 m hm => by
        have h2 := ownsC_cell ((hg.out.trans g5).owns HL.out) m hm
        rw [rw7_at p n m hm] at h2
        exact h2
      obtain ⟨m1, hm1⟩ : ∃ m1, m1 = (n - j) % n := ⟨_, rfl⟩
      have b1 : m1 < n := by rw [hm1]; exact Nat.mod_lt _ (by omega)
      have et1 : ((n : Int) - (j : Int)).tmod (n : Int) = (m1 : Int) := by
        rw [Int.tmod_eq_emod_of_nonneg (by omega), hm1, Int.natCast_emod, Int.natCast_sub (by omega)]
      have i2 : (m1 : Int) < (n : Int) := by omega
      rw [← hm1] at st
      obtain ⟨m2, hm2⟩ : ∃ m2, m2 = (j + n / 4) % n := ⟨_, rfl⟩
      have b2 : m2 < n := by rw [hm2]; exact Nat.mod_lt _ (by omega)
      obtain ⟨q, hq⟩ : ∃ q, q = n / 4 := ⟨_, rfl⟩
      have et2 : ((j : Int) + (q : Int)).tmod (n : Int) = (m2 : Int) := by
        rw [Int.tmod_eq_emod_of_nonneg (by omega), hm2, Int.natCast_emod, Int.natCast_add, hq]
      have i3 : (m2 : Int) < (n : Int) := by omega
      rw [← hm2, ← hq] at st
      have eq4 : (n : Int) / 4 = (q : Int) := by omega
      have hqn : 4 * q ≤ n := by omega
      have eqt : (n : Int).tdiv 4 = (q : Int) := by rw [Int.tdiv_eq_ediv_of_nonneg (by omega)]; omega
      clear hm1 hm2 hs hq
      simp only [Bool.and_eq_true] at st
      obtain ⟨⟨⟨⟨s1, s2⟩, s3⟩, s4⟩, s5⟩ := st
      clear s5
      unfold fo at *
      generalize hz : tv T7 p j = z at *
      obtain ⟨a, b⟩ := z
      have L1 := hide (fun w => likeN (tv T7 p m1).1 (tv T7 p m1).2 a (abW b) w s1 s2)
      have cs : (decide ((n : Int) ≥ 4) = false ∧ decide ((n : Int) ≥ 8) = false) ∨ ((n : Int) ≥ 4 ∧ decide ((n : Int) ≥ 8) = false) ∨ ((n : Int) ≥ 4 ∧ (n : Int) ≥ 8 ∧ decide ((j : Int) ≤ (q : Int)) = false) ∨ ((n : Int) ≥ 4 ∧ (n : Int) ≥ 8 ∧ (j : Int) ≤ (q : Int)) := by
        simp only [decide_eq_false_iff_not]
        omega
      have K2 := hide (fun h4 : 4 ≤ n => show (FloatKind.f64.format.order (tv T7 p m2).1 (abW b) == some .eq) = true ∧ (FloatKind.f64.format.order (tv T7 p m2).2 a == some .eq) = true by
        rw [decide_eq_false (by omega)] at s3
        simpa using s3)
      have K3 := hide (fun (h8 : 8 ≤ n) (hjq : j ≤ q) => show tv T7 p (q - j) = (b, a) by
        rw [decide_eq_false (by omega : ¬ n < 8), decide_eq_false (by omega : ¬ q < j)] at s4
        simpa using s4)
      clear s1 s2 s3 s4
      rcases cs with ⟨c4, c8⟩ | ⟨c4, c8⟩ | ⟨c4, c8, c9⟩ | ⟨c4, c8, c9⟩
      · go_wp2_with (go_at_call 9; (with_reducible refine RT.out.mono ?_); rintro r w5 ⟨rfl, g5⟩; clear ewm; have k1 := KC.out w5 g5 j hlt; have k2 := KC.out w5 g5 m1 b1; rw [hz] at k1)
        go_quiet (first | (go_at_call 8; refine Calls.quiet_of_same (sameN _ _ _)) | (go_at_call 11; refine Calls.quiet_of_same (conjE _ _ _)) | (go_at_call 10; refine Calls.quiet_of_same (L1.out _)))
        go_wp2
        go_quiet (fail)
        go_wp2
        go_quiet (fail)
        go_wp2
        exact ⟨⟨j + 1, by omega, by go_num, (hg.out.trans g5).drewN _⟩, by simp only [intOf]; omega⟩
      · have L2 := hide (fun w => likeN (tv T7 p m2).1 (tv T7 p m2).2 (abW b) a w (K2.out (by omega)).1 (K2.out (by omega)).2)
        go_wp2_with (go_at_call 9; (with_reducible refine RT.out.mono ?_); rintro r w5 ⟨rfl, g5⟩; clear ewm; have k1 := KC.out w5 g5 j hlt; have k2 := KC.out w5 g5 m1 b1; rw [hz] at k1; have k4 := KC.out w5 g5 m2 b2)
        go_quiet (first | (go_at_call 8; refine Calls.quiet_of_same (sameN _ _ _)) | (go_at_call 11; refine Calls.quiet_of_same (conjE _ _ _)) | (go_at_call 10; refine Calls.quiet_of_same (L1.out _)))
        go_wp2
        go_quiet (first | (go_at_call 12; refine quiet2 (turn1 _ _ _)) | (go_at_call 10; refine quiet2 (L2.out _)))
        go_wp2
        go_quiet (fail)
        go_wp2
        exact ⟨⟨j + 1, by omega, by go_num, (hg.out.trans g5).drewN _⟩, by simp only [intOf]; omega⟩
      · have c9a : (q : Int) < (j : Int) := by have := of_decide_eq_false c9; omega
        have c9b : decide (j ≤ q) = false := decide_eq_false (by omega)
        have c9c : ¬ (j : Int) ≤ (q : Int) := by omega
        have L2 := hide (fun w => likeN (tv T7 p m2).1 (tv T7 p m2).2 (abW b) a w (K2.out (by omega)).1 (K2.out (by omega)).2)
        go_wp2_with (go_at_call 9; (with_reducible refine RT.out.mono ?_); rintro r w5 ⟨rfl, g5⟩; clear ewm; have k1 := KC.out w5 g5 j hlt; have k2 := KC.out w5 g5 m1 b1; rw [hz] at k1; have k4 := KC.out w5 g5 m2 b2)
        go_quiet (first | (go_at_call 8; refine Calls.quiet_of_same (sameN _ _ _)) | (go_at_call 11; refine Calls.quiet_of_same (conjE _ _ _)) | (go_at_call 10; refine Calls.quiet_of_same (L1.out _)))
        go_wp2
        go_quiet (first | (go_at_call 12; refine quiet2 (turn1 _ _ _)) | (go_at_call 10; refine quiet2 (L2.out _)))
        go_wp2
        go_quiet (fail)
        go_wp2
        exact ⟨⟨j + 1, by omega, by go_num, (hg.out.trans g5).drewN _⟩, by simp only [intOf]; omega⟩
      · have L2 := hide (fun w => likeN (tv T7 p m2).1 (tv T7 p m2).2 (abW b) a w (K2.out (by omega)).1 (K2.out (by omega)).2)
        have hqj : q - j < n := by omega
        have e3 := K3.out (by omega) (by omega)
        go_wp2_with (go_at_call 9; (with_reducible refine RT.out.mono ?_); rintro r w5 ⟨rfl, g5⟩; clear ewm; have k1 := KC.out w5 g5 j hlt; have k2 := KC.out w5 g5 m1 b1; rw [hz] at k1; have k4 := KC.out w5 g5 m2 b2; have k5 := KC.out w5 g5 (q - j) hqj; rw [e3] at k5)
        go_quiet (first | (go_at_call 8; refine Calls.quiet_of_same (sameN _ _ _)) | (go_at_call 11; refine Calls.quiet_of_same (conjE _ _ _)) | (go_at_call 10; refine Calls.quiet_of_same (L1.out _)))
        go_wp2
        go_quiet (first | (go_at_call 12; refine quiet2 (turn1 _ _ _)) | (go_at_call 10; refine quiet2 (L2.out _)))
        go_wp2
        go_quiet (first | (go_at_call 8; refine quiet2 (sameN _ _ _)))
        go_wp2
        exact ⟨⟨j + 1, by omega, by go_num, (hg.out.trans g5).drewN _⟩, by simp only [intOf]; omega⟩
    · have i1 : ¬ (j : Int) < (n : Int) := by omega
      clear ewm bS0 bS1 HS
      obtain ⟨h2, eh2⟩ : ∃ h2, h2 = n / 2 := ⟨_, rfl⟩
      have eqt : (n : Int).tdiv 2 = (h2 : Int) := by rw [Int.tdiv_eq_ediv_of_nonneg (by omega)]; omega
      have eqd : (n : Int) / 2 = (h2 : Int) := by omega
      have EH := hide eh2
      have hh2 : 2 * h2 ≤ n := by omega
      clear eh2
      have HF := hide (halfN p wr hp (tab_gr HT.out (G3.out.trans hg.out)))
      by_cases hp0 : p = 0
      · have q0 : (p : Int) = 0 := by omega
        rw [q0] at HF
        go_wp2_with (first | (go_at_call 13; (with_reducible refine HF.out.mono ?_); rintro r w6 ⟨gh, m, hgh, rfl, hh, g6, HM, hm1⟩; have em : max (h2 : Int) 1 = (m : Int) := (by have h1 := HM.out; rw [← HN.out] at h1; have h2 := EH.out; omega); have im : (m : Int) ≤ (n : Int) := (by have h1 := HM.out; rw [← HN.out] at h1; have h3 := HN.out; have h4 := Nat.two_pow_pos p; omega); have SR := hide (sameRowsE gh g m m n (tv T7 p) w6 (fun i hi => by have h := ownsC_cell hh i hi; rw [rw7_at p m i hi] at h; exact h) (fun i hi => by have h := ownsC_cell ((hg.out.trans g6).owns HL.out) i (by omega); rw [rw7_at p n i (by omega)] at h; exact h) (by omega))) | (go_at_call 14; (with_reducible refine SR.out.mono ?_); rintro r w7 ⟨rfl, g7⟩))
        go_ret
        exact ⟨rfl, (G3.out.trans hg.out).trans (g6.trans g7)⟩
      · have q0 : ¬ (p : Int) = 0 := by omega
        have RL : Hid (∀ w1, Gr w w1 → Calls Tryd.prog 7 #[.int .i64 ((p : Int) - 1)] w1 fun r w' => ∃ g n, w1.heap.size ≤ g ∧ r = .returned (.tuple #[.slice (some ⟨g, 0, none⟩) n n, .int .i64 0]) ∧ w'.ownsRow g 30 1 (.slice (some ⟨g, 0, none⟩) n n) n (cz (rw7 T7 (p - 1) n)) ∧ Gr w1 w' ∧ Hid (n = 2 ^ (p - 1))) := fun w1 gg => by
          have h := rowN (p - 1) w1 (by omega) (tab_gr HT.out gg)
          rw [show ((p - 1 : Nat) : Int) = (p : Int) - 1 by omega] at h
          exact h.mono fun r w' ⟨g, n, a1, a2, a3, a4, a5, _⟩ => ⟨g, n, a1, a2, a3, a4, a5⟩
        go_wp2_with (first | (go_at_call 13; (with_reducible refine HF.out.mono ?_); rintro r w6 ⟨gh, m, hgh, rfl, hh, g6, HM, hm1⟩; have em : max (h2 : Int) 1 = (m : Int) := (by have h1 := HM.out; rw [← HN.out] at h1; have h2 := EH.out; omega); have im : (m : Int) ≤ (n : Int) := (by have h1 := HM.out; rw [← HN.out] at h1; have h3 := HN.out; have h4 := Nat.two_pow_pos p; omega); have SR := hide (sameRowsE gh g m m n (tv T7 p) w6 (fun i hi => by have h := ownsC_cell hh i hi; rw [rw7_at p m i hi] at h; exact h) (fun i hi => by have h := ownsC_cell ((hg.out.trans g6).owns HL.out) i (by omega); rw [rw7_at p n i (by omega)] at h; exact h) (by omega))) | (go_at_call 14; (with_reducible refine SR.out.mono ?_); rintro r w7 ⟨rfl, g7⟩) | (go_at_call 7; (with_reducible refine (RL.out _ ((G3.out.trans hg.out).trans (g6.trans g7))).mono ?_); rintro r w8 ⟨gl, n2, hgl, rfl, hlo, g8, HN2⟩; obtain rfl : n2 = h2 := (by have e1 := HN2.out; have e2 := HN.out; have e3 := EH.out; have e4 : 2 ^ p = 2 * 2 ^ (p - 1) := (by rw [← Nat.pow_succ']; congr 1; omega); omega)))
        have HLO := hide hlo
        have G8 : Hid (Gr w3 w8) := hg.out.trans (g6.trans (g7.trans g8))
        clear hlo hh SR em im
        go_loopw [15] (fun i wr' => ∃ k : Nat, k ≤ n2 ∧ i = .int .i64 (k : Int) ∧ Hid (Gr w8 wr')) (fun i _ => n2 - (intOf i).toNat)
        case atStart => exact ⟨0, by omega, rfl, Gr.refl _⟩
        case round =>
          obtain ⟨k, hk, rfl, hgk⟩ := hrel
          by_cases hkt : k < n2
          · have i2 : (k : Int) < (n2 : Int) := by omega
            have i3 : 2 * (k : Int) < (n : Int) := by omega
            have kl := ownsC_cell (hgk.out.owns HLO.out) k hkt
            have kk := ownsC_cell ((G8.out.trans hgk.out).owns HL.out) (2 * k) (by omega)
            rw [rw7_at (p - 1) n2 k hkt] at kl
            rw [rw7_at p n (2 * k) (by omega)] at kk
            have st := List.all_eq_true.1 (List.all_eq_true.1 tu_all p (List.mem_range.2 (by omega))) k (List.mem_range.2 (by have := HN.out; omega))
            unfold tuOK at st
            simp only [Bool.and_eq_true] at st
            have s5 := st.2
            have e2 := HN.out
            rw [decide_eq_false hp0, decide_eq_false (by omega : ¬ 2 ^ p / 2 ≤ k)] at s5
            have s6 : tv T7 (p - 1) k = tv T7 p (2 * k) := by simpa using s5
            rw [s6] at kl
            clear st s5 s6 e2
            generalize tv T7 p (2 * k) = z at *
            obtain ⟨a, b⟩ := z
            go_wp2
            go_quiet (first | (go_at_call 8; refine Calls.quiet_of_same (sameN _ _ _)))
            go_wp2
            exact ⟨⟨k + 1, by omega, by go_num, hgk.out.drewN _⟩, by simp only [intOf]; omega⟩
          · have i2 : ¬ (k : Int) < (n2 : Int) := by omega
            go_wp2
            go_ret
            exact ⟨rfl, G3.out.trans (G8.out.trans hgk.out)⟩
end Go.Proofs.YtfgaifbnhdgkgaaDoor
namespace Go.Proofs.YtfgaifbnhdgkgaaDoor
open Go.ChangeShapes Go.WideShapes Go.ChangeAt Go.RowKit
set_option linter.unusedVariables false

/-! THE FRAME OF THE STATEMENTS ON DYADS -/
theorem own : ownKnob Tryd.prog.godebug = none := by kernel_rfl
theorem laidOut : laidOutB Tryd.prog = true := by kernel_rfl
theorem cells37 : Tryd.prog.cellsOf 42 = 1 := by kernel_rfl
theorem cells24 : Tryd.prog.cellsOf 48 = 3 := by kernel_rfl
theorem cells22 : Tryd.prog.cellsOf 46 = 1 := by kernel_rfl
theorem cells3 : Tryd.prog.cellsOf 3 = 1 := by kernel_rfl
theorem cells4 : Tryd.prog.cellsOf 4 = 1 := by kernel_rfl
theorem cells5 : Tryd.prog.cellsOf 5 = 1 := by kernel_rfl
theorem cells96 : Tryd.prog.cellsOf 106 = 64 := by kernel_rfl
theorem gTab : Tryd.prog.globalNamed "math/bits.deBruijn64tab" = some 1 := by kernel_rfl
theorem tTab : (Tryd.prog.globals[1]?).map (·.type) = some 106 := by kernel_rfl
theorem laid_list {H : Type} : (Rows.laid_math_bits_deBruijn64tab : DataW H) = .agg (Lib.deBruijn64tab.map fun (n : Nat) => .lit (.int .u8 (n : Int))) := rfl
theorem tab_len : Lib.deBruijn64tab.length = 64 := rfl
set_option maxRecDepth 100000 in
/-- what the listed variable gives: the table's cells -/
theorem tab_of_laid {W : World} (h : laidMetH Tryd.prog [("math/bits.deBruijn64tab", Rows.laid_math_bits_deBruijn64tab)] W) : TabAt 1 Lib.deBruijn64tab W := by
  rw [MakeChecks.laidMetH_plain _ _ _ (by kernel_rfl)] at h
  obtain ⟨ps, ⟨g0, t0, cs0, f0, p0, q0, hg0, ht0, hv0, hd0, _, _⟩, _, _⟩ := h
  obtain rfl := Option.some.inj (gTab.symm.trans hg0)
  obtain rfl := Option.some.inj (tTab.symm.trans ht0)
  obtain ⟨xs, m1, rfl, hx1, hlen, hn3, hel⟩ := DataW.trod_array Tryd.underlying106 hd0
  rw [laid_list] at hx1
  have hx2 : Lib.deBruijn64tab.map (fun (n : Nat) => (.lit (.int .u8 (n : Int)) : DataW Unit)) = xs.map (·.1) := by
    injection hx1 with h1 h2
    injection h1
  intro j hj
  rw [tab_len] at hj
  have h0 := hel j hj
  rw [cells5, Nat.mul_one] at h0
  have hxj : xs[j]? = some xs[j] := List.getElem?_eq_getElem (by omega)
  rw [hxj] at h0
  obtain ⟨n, e1, e2, _⟩ := DataW.trod_int Tryd.underlying5 h0
  have e3 : (xs.map (·.1))[j]? = some (.lit (.int .u8 n)) := by
    rw [List.getElem?_map, hxj, e2]; rfl
  rw [← hx2, List.getElem?_map, List.getElem?_eq_getElem (by rw [tab_len]; exact hj)] at e3
  simp only [Option.map_some] at e3
  injection e3 with e3
  injection e3 with e3
  injection e3 with _ e3
  rw [World.var?_cell hg0 hv0 j, List.getD_eq_getElem?_getD, List.getElem?_eq_getElem (by rw [tab_len]; exact hj)]
  simp only [Option.getD_some]
  have e5 : cs0.toList[j]? = some (.int .u8 n) := by
    have : (cs0.toList.drop j).take 1 = [.int .u8 n] := e1
    have h6 : ((cs0.toList.drop j).take 1)[0]? = some (.int .u8 n) := by rw [this]; rfl
    rw [List.getElem?_take_of_lt (by omega), List.getElem?_drop] at h6
    exact h6
  rw [Array.getElem?_toList] at e5
  rw [e5]
  exact congrArg (fun z => some (Value.int .u8 z)) e3.symm
/-- the door's own heap meets the condition -/
theorem door_met (os : Os) (args : Array Value) : laidMetH Tryd.prog [("math/bits.deBruijn64tab", Rows.laid_math_bits_deBruijn64tab)] ((World.doorLaid Tryd.prog 400 os).forCall (fun _ _ => 0) ⟨#[], args, []⟩).memory :=
  laidMetH_of_parts3 (fuel := 8) (laidMet_of_run' 8 (by kernel_rfl) (by kernel_rfl)) (by kernel_rfl) (by kernel_rfl)
end Go.Proofs.YtfgaifbnhdgkgaaDoor
