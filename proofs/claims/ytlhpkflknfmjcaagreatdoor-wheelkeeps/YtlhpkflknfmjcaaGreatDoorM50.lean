import Derived.Test.YtlhpkflknfmjcaaGreatDoorM49
import Derived.Test.YtlhpkflknfmjcaaGreatDoorM12
import Derived.Test.YtlhpkflknfmjcaaGreatDoorM18
import Derived.Test.YtlhpkflknfmjcaaGreatDoorRows
import Derived.WalkKit
import Derived.ProofKit
import Derived.OpenShut
import Derived.LaidMore
import Derived.Stop.Joined
import Derived.Laws.Cover2
import Derived.ChangeSlices
import Derived.Carry
import Derived.Deep.Strs
namespace Go.Proofs.YtlhpkflknfmjcaaGreatDoor
open Go.RowKit
open Ieee
set_option linter.unusedVariables false

/-! WHEEL: AWAKE -/
theorem rootE (k i : Nat) (st : Int) (w : World) (hT : TabAt 2 Lib.deBruijn64tab w) (hk : k ≤ 7) (hi : i < 2 ^ k) (hs : st % ((2 ^ k : Nat) : Int) = (i : Int)) :
    Calls Tryz.prog 28 #[.int .i64 (k : Int), .int .i64 st] w fun r w' => r = .returned (.tuple #[.complex .f64 (tv T7 k i).1 (tv T7 k i).2, .int .i64 0]) ∧ Gr w w' := by
  have NR := hide (near7o k i st w hT hk hi hs)
  rw [show T7.getD (i * 2 ^ (7 - k)) (0, 0) = tv T7 k i from rfl] at NR
  generalize (tv T7 k i).1 = x at *
  generalize (tv T7 k i).2 = y at *
  clear hT hs
  go_enter Tryz.func28, Tryz.ntmps28
  go_wp2_with (go_at_call 66; (with_reducible refine NR.out.mono ?_); rintro r w1 ⟨rfl, g1⟩)
  go_ret2
  exact ⟨rfl, g1⟩
theorem r2_a : (rw7 T7 2 4).getD 0 (0, 0) = (4607182418800017408, 0) := by decide +kernel
theorem r2_b : (rw7 T7 2 4).getD 1 (0, 0) = (0, 4607182418800017408) := by decide +kernel
theorem r2_c : (rw7 T7 2 4).getD 2 (0, 0) = (13830554455654793216, 0) := by decide +kernel
theorem r2_d : (rw7 T7 2 4).getD 3 (0, 0) = (0, 13830554455654793216) := by decide +kernel
theorem lit4 (w : World) (j : Nat) (hj : j < 4) : (w.alloc (.cells #[.complex .f64 4607182418800017408 0, .complex .f64 0 4607182418800017408, .complex .f64 13830554455654793216 0, .complex .f64 0 13830554455654793216] 54)).cell? ⟨w.heap.size, j, none⟩ = some (.complex .f64 ((rw7 T7 2 4).getD j (0, 0)).1 ((rw7 T7 2 4).getD j (0, 0)).2) := by
  rw [World.cell?_alloc_at _ _ _ _ rfl]
  rcases (show j = 0 ∨ j = 1 ∨ j = 2 ∨ j = 3 by omega) with rfl | rfl | rfl | rfl
  · rw [r2_a]; rfl
  · rw [r2_b]; rfl
  · rw [r2_c]; rfl
  · rw [r2_d]; rfl
theorem r2_1 : (rw7 T7 2 2).getD 1 (0, 0) = (0, 4607182418800017408) := by decide +kernel
theorem tv23 : tv T7 2 3 = (0, 13830554455654793216) := by decide +kernel
theorem eqC1 (w : World) : (binOp .eql 54 (.complex .f64 0 4607182418800017408) (.complex .f64 0 4607182418800017408)).run Tryz.prog w = .ok (.bool true) w := by kernel_rfl
theorem eqC2 (w : World) : (binOp .eql 54 (.complex .f64 0 13830554455654793216) (.complex .f64 0 13830554455654793216)).run Tryz.prog w = .ok (.bool true) w := by kernel_rfl
set_option maxHeartbeats 1600000 in
theorem awakeE (w : World) (hT : TabAt 2 Lib.deBruijn64tab w) : Calls Tryz.prog 6 #[] w fun r w' => r = .returned (.bool true) ∧ Gr w w' := by
  have R2 := hide (fun w1 (g : Gr w w1) => row2 w1 (tab_gr hT g))
  have H2 := hide (fun w1 (g : Gr w w1) => half2 w1 (tab_gr hT g))
  have Z2 : Hid (∀ w1, Gr w w1 → Calls Tryz.prog 28 #[.int .i64 2, .int .i64 3] w1 fun r w' => r = .returned (.tuple #[.complex .f64 0 13830554455654793216, .int .i64 0]) ∧ Gr w1 w') := fun w1 g => by
    have h := rootE 2 3 3 w1 (tab_gr hT g) (by omega) (by omega) (by decide)
    rw [tv23] at h
    exact h
  have e1 := eqC1
  have e2 := eqC2
  clear hT
  go_enter Tryz.func6, Tryz.ntmps6
  go_wp2_with (first | (go_at_call 8; (with_reducible refine (R2.out _ (Gr.refl _)).mono ?_); rintro r w1 ⟨g, hg0, rfl, hl, g1⟩) | (go_at_call 9; (with_reducible refine (H2.out _ g1).mono ?_); rintro r w2 ⟨gh, hg0', rfl, hh, g2⟩) | (go_at_call 28; (with_reducible refine (Z2.out _ (g1.trans g2)).mono ?_); rintro r w3 ⟨rfl, g3⟩; have hl3 := (g2.trans g3).owns hl; have hh3 := g3.owns hh; have hc3 := ownsC_cell hh3 1 (by omega); rw [r2_1] at hc3) | (go_at_call 11; refine (sameRowsE _ _ 4 _ _ (fun j => (rw7 T7 2 4).getD j (0, 0)) _ ?_ ?_ ?_).mono ?_; rotate_right; rintro r w5 ⟨rfl, g5⟩; have hc5 := g5.keep (((Gr.refl w3).alloc _).keep hc3)))
  · go_ret
    exact ⟨rfl, (g1.trans g2).trans (g3.trans (((Gr.refl w3).alloc _).trans g5))⟩
  · exact fun j hj => ((Gr.refl w3).alloc _).keep (ownsC_cell hl3 j hj)
  · exact fun j hj => lit4 w3 j hj
  · omega
end Go.Proofs.YtlhpkflknfmjcaaGreatDoor
namespace Go.Proofs.YtlhpkflknfmjcaaGreatDoor
open Go.RowKit
open Ieee
set_option linter.unusedVariables false

/-! WheelSteep -/
def fo (a b : Nat) : Option Ordering := FloatKind.f64.format.order a b
def stOK (p i : Nat) : Bool :=
  (fo (tv T7 p i).1 13830554455654793216 == some .gt || fo (tv T7 p i).1 13830554455654793216 == some .eq) &&
  (fo (tv T7 p i).1 4607182418800017408 == some .lt || fo (tv T7 p i).1 4607182418800017408 == some .eq) &&
  (fo (tv T7 p i).2 13830554455654793216 == some .gt || fo (tv T7 p i).2 13830554455654793216 == some .eq) &&
  (fo (tv T7 p i).2 4607182418800017408 == some .lt || fo (tv T7 p i).2 4607182418800017408 == some .eq) &&
  (decide ((tv T7 p i).1 = 0) || !(fo (tv T7 p i).1 0 == some .eq)) && (decide ((tv T7 p i).2 = 0) || !(fo (tv T7 p i).2 0 == some .eq)) &&
  !decide ((tv T7 p i).1 = 0 ∧ (tv T7 p i).2 = 0) &&
  (!decide (4 * i < 2 ^ p) || !decide (0 < i) || (fo (tv T7 p i).1 (tv T7 p (i - 1)).1 == some .lt && fo (tv T7 p i).2 (tv T7 p (i - 1)).2 == some .gt))
theorem st_all : (List.range 8).all (fun p => (List.range (2 ^ p)).all fun i => stOK p i) = true := by decide +kernel
theorem rowN (p : Nat) (w : World) (hp : p ≤ 7) (hT : TabAt 2 Lib.deBruijn64tab w) : Calls Tryz.prog 8 #[.int .i64 (p : Int)] w fun r w' => ∃ g n, w.heap.size ≤ g ∧ r = .returned (.tuple #[.slice (some ⟨g, 0, none⟩) n n, .int .i64 0]) ∧ w'.ownsRow g 54 1 (.slice (some ⟨g, 0, none⟩) n n) n (cz (rw7 T7 p n)) ∧ Gr w w' ∧ Hid (n = 2 ^ p) ∧ wrap64 ((2 : Int) ^ p) = (n : Int) ∧ n ≤ 128 := by
  refine (rowE p w hp hT).mono ?_
  rintro r w' ⟨g, h1, h2, h3, h4⟩
  refine ⟨g, _, h1, h2, h3, h4, rfl, ?_⟩
  rcases (show p = 0 ∨ p = 1 ∨ p = 2 ∨ p = 3 ∨ p = 4 ∨ p = 5 ∨ p = 6 ∨ p = 7 by omega) with rfl | rfl | rfl | rfl | rfl | rfl | rfl | rfl <;> exact ⟨by decide +kernel, by omega⟩
theorem rw7_at (p n i : Nat) (h : i < n) : (rw7 T7 p n).getD i (0, 0) = tv T7 p i := by
  unfold rw7
  rw [List.getD_eq_getElem?_getD, List.getElem?_map, List.getElem?_range h]
  rfl
end Go.Proofs.YtlhpkflknfmjcaaGreatDoor
namespace Go.Proofs.YtlhpkflknfmjcaaGreatDoor
open Go.RowKit
open Ieee
set_option linter.unusedVariables false

/-! WheelTurned: WHAT IT HOLDS AGAINST EACH OTHER -/
theorem likeF (x y : Nat) (w : World) (h : (FloatKind.f64.format.order x y == some .eq) = true) : Calls Tryz.prog 125 #[.float .f64 x, .float .f64 y] w fun e w' => e = .returned (.bool true) ∧ w' = w := by
  go_enter Tryz.func125, Tryz.ntmps125
  go_wp2
  go_ret
  exact ⟨rfl, rfl⟩
theorem likeN (x y x' y' : Nat) (w : World) (h1 : (FloatKind.f64.format.order x x' == some .eq) = true) (h2 : (FloatKind.f64.format.order y y' == some .eq) = true) : Calls Tryz.prog 83 #[.complex .f64 x y, .complex .f64 x' y'] w fun e w' => e = .returned (.bool true) ∧ w' = w := by
  have L1 := hide (fun w => likeF x x' w h1)
  have L2 := hide (fun w => likeF y y' w h2)
  clear h1 h2
  go_enter Tryz.func83, Tryz.ntmps83
  go_wp2_with (go_at_call 125; first | ((with_reducible refine (L1.out _).mono ?_); rintro r w1 ⟨rfl, rfl⟩) | ((with_reducible refine (L2.out _).mono ?_); rintro r w1 ⟨rfl, rfl⟩))
  go_ret
  exact ⟨rfl, rfl⟩
theorem conjE (x y : Nat) (w : World) : Calls Tryz.prog 44 #[.complex .f64 x y] w fun r w' => r = .returned (.complex .f64 x (abW y)) ∧ w' = w := by
  go_enter Tryz.func44, Tryz.ntmps44
  go_wp2_with (go_at_call 89; (with_reducible refine (aboutE _ _).mono ?_); rintro r w1 ⟨rfl, rfl⟩)
  go_ret
  exact ⟨rfl, rfl⟩
theorem turn1 (x y : Nat) (w : World) : Calls Tryz.prog 47 #[.complex .f64 x y, .int .i64 1] w fun r w' => r = .returned (.complex .f64 (abW y) x) ∧ w' = w := pturn 1 x y w (by omega)
theorem pickM (x : Int) (w : World) : Calls Tryz.prog 7 #[.int .i64 x, .int .i64 1048576] w fun r w' => ∃ p : Int, r = .returned (.int .i64 p) ∧ 0 ≤ p ∧ p ≤ 1048575 ∧ w' = w := by
  have b1 : -1048576 < x.tmod 1048576 := by have := Int.lt_tmod_of_pos x (by omega : (0 : Int) < 1048576); omega
  have b2 : x.tmod 1048576 < 1048576 := Int.tmod_lt_of_pos x (by omega)
  have h8 : ((1048576 : Int) == 0) = false := by decide
  generalize hy : x.tmod 1048576 = y at *
  by_cases hn : y < 0
  · go_enter Tryz.func7, Tryz.ntmps7
    go_wp2
    go_ret
    exact ⟨_, rfl, by omega, by omega, rfl⟩
  · go_enter Tryz.func7, Tryz.ntmps7
    go_wp2
    go_ret
    exact ⟨_, rfl, by omega, by omega, rfl⟩
def tuOK (p i : Nat) : Bool :=
  (fo (tv T7 p ((2 ^ p - i) % 2 ^ p)).1 (tv T7 p i).1 == some .eq) && (fo (tv T7 p ((2 ^ p - i) % 2 ^ p)).2 (abW (tv T7 p i).2) == some .eq) &&
  (decide (2 ^ p < 4) || ((fo (tv T7 p ((i + 2 ^ p / 4) % 2 ^ p)).1 (abW (tv T7 p i).2) == some .eq) && (fo (tv T7 p ((i + 2 ^ p / 4) % 2 ^ p)).2 (tv T7 p i).1 == some .eq))) &&
  (decide (2 ^ p < 8) || decide (2 ^ p / 4 < i) || decide (tv T7 p (2 ^ p / 4 - i) = ((tv T7 p i).2, (tv T7 p i).1))) &&
  (decide (p = 0) || decide (2 ^ p / 2 ≤ i) || decide (tv T7 (p - 1) i = tv T7 p (2 * i)))
theorem tu_all : (List.range 8).all (fun p => (List.range (2 ^ p)).all fun i => tuOK p i) = true := by decide +kernel
theorem halfN (p : Nat) (w : World) (hp : p ≤ 7) (hT : TabAt 2 Lib.deBruijn64tab w) : Calls Tryz.prog 9 #[.int .i64 (p : Int)] w fun r w' => ∃ g m, w.heap.size ≤ g ∧ r = .returned (.tuple #[.slice (some ⟨g, 0, none⟩) m m, .int .i64 0]) ∧ w'.ownsRow g 54 1 (.slice (some ⟨g, 0, none⟩) m m) m (cz (rw7 T7 p m)) ∧ Gr w w' ∧ Hid (m = max (2 ^ p / 2) 1) ∧ m ≤ 128 := by
  rcases (show p = 0 ∨ p = 1 ∨ p = 2 ∨ p = 3 ∨ p = 4 ∨ p = 5 ∨ p = 6 ∨ p = 7 by omega) with rfl | rfl | rfl | rfl | rfl | rfl | rfl | rfl
  · exact (half0 w hT).mono fun r w' ⟨g, h1, h2, h3, h4⟩ => ⟨g, _, h1, h2, h3, h4, (show _ = _ from rfl), by omega⟩
  · exact (half1 w hT).mono fun r w' ⟨g, h1, h2, h3, h4⟩ => ⟨g, _, h1, h2, h3, h4, (show _ = _ from rfl), by omega⟩
  · exact (half2 w hT).mono fun r w' ⟨g, h1, h2, h3, h4⟩ => ⟨g, _, h1, h2, h3, h4, (show _ = _ from rfl), by omega⟩
  · exact (half3 w hT).mono fun r w' ⟨g, h1, h2, h3, h4⟩ => ⟨g, _, h1, h2, h3, h4, (show _ = _ from rfl), by omega⟩
  · exact (half4 w hT).mono fun r w' ⟨g, h1, h2, h3, h4⟩ => ⟨g, _, h1, h2, h3, h4, (show _ = _ from rfl), by omega⟩
  · exact (half5 w hT).mono fun r w' ⟨g, h1, h2, h3, h4⟩ => ⟨g, _, h1, h2, h3, h4, (show _ = _ from rfl), by omega⟩
  · exact (half6 w hT).mono fun r w' ⟨g, h1, h2, h3, h4⟩ => ⟨g, _, h1, h2, h3, h4, (show _ = _ from rfl), by omega⟩
  · exact (half7 w hT).mono fun r w' ⟨g, h1, h2, h3, h4⟩ => ⟨g, _, h1, h2, h3, h4, (show _ = _ from rfl), by omega⟩
end Go.Proofs.YtlhpkflknfmjcaaGreatDoor
namespace Go.Proofs.YtlhpkflknfmjcaaGreatDoor.Apt
open Go.RowKit
set_option linter.unusedVariables false

/-! WheelKeeps -/
theorem pick7 (x : Int) (w : World) : Calls Tryz.prog 7 #[.int .i64 x, .int .i64 7] w fun r w' => ∃ p : Nat, r = .returned (.int .i64 (p : Int)) ∧ p ≤ 6 ∧ w' = w := by
  have b1 : -7 < x.tmod 7 := by have := Int.lt_tmod_of_pos x (by omega : (0 : Int) < 7); omega
  have b2 : x.tmod 7 < 7 := Int.tmod_lt_of_pos x (by omega)
  have h8 : ((7 : Int) == 0) = false := by decide
  generalize hy : x.tmod 7 = y at *
  by_cases hn : y < 0
  · go_enter Tryz.func7, Tryz.ntmps7
    go_wp2
    go_ret
    exact ⟨(y + 7).toNat, by rw [Int.toNat_of_nonneg (by omega)]; rfl, by omega, rfl⟩
  · go_enter Tryz.func7, Tryz.ntmps7
    go_wp2
    go_ret
    exact ⟨y.toNat, by rw [Int.toNat_of_nonneg (by omega)]; rfl, by omega, rfl⟩
theorem GA.owns {m : Nat} {V : Nat → Value} {base : Nat} {w w' : World} (h : GA m V base w w') {b2 : Nat} {e : TypeId} {size : Nat} {v : Value} {n : Nat} {xs : List Value} (ho : w.ownsRow b2 e size v n xs) (hv : ∀ k, v.ownBlock = some k → ∀ j, j < m → (V j).ownBlock ≠ some k) : w'.ownsRow b2 e size v n xs := by
  refine ⟨ho.1, ?_⟩
  rcases ho.2 with ⟨rfl, rfl⟩ | ⟨b, cap, cur, rfl, hb, hg, h1, h2, h3, h4⟩
  · exact Or.inl ⟨rfl, rfl⟩
  · refine Or.inr ⟨b, cap, cur, rfl, hb, ?_, h1, h2, h3, h4⟩
    rw [h.2.2 b (lt_of_get hg) (hv b rfl)]
    exact hg
def rV (g1 g2 g3 g4 n m : Nat) (k : Nat) : Value := if k = 0 then .slice (some ⟨g1, 0, none⟩) n n else if k = 1 then .slice (some ⟨g2, 0, none⟩) n n else if k = 2 then .slice (some ⟨g3, 0, none⟩) m m else .slice (some ⟨g4, 0, none⟩) m m
theorem rV_block (g1 g2 g3 g4 n m k : Nat) : (rV g1 g2 g3 g4 n m k).ownBlock = some (if k = 0 then g1 else if k = 1 then g2 else if k = 2 then g3 else g4) := by
  unfold rV
  split
  · rfl
  · split
    · rfl
    · split <;> rfl
/-- four rows in a literal lie apart -/
theorem apart4 (g1 g2 g3 g4 n m base : Nat) (z1 z2 z3 z4 : List (Nat × Nat)) (w : World) (hn : n ≤ 64) (hm : m ≤ 64) (b0 : base ≤ g1) (b1 : g1 < g2) (b2 : g2 < g3) (b3 : g3 < g4)
    (h1 : w.ownsRow g1 54 1 (.slice (some ⟨g1, 0, none⟩) n n) n (cz z1)) (h2 : w.ownsRow g2 54 1 (.slice (some ⟨g2, 0, none⟩) n n) n (cz z2)) (h3 : w.ownsRow g3 54 1 (.slice (some ⟨g3, 0, none⟩) m m) m (cz z3)) (h4 : w.ownsRow g4 54 1 (.slice (some ⟨g4, 0, none⟩) m m) m (cz z4)) :
    Calls Tryz.prog 12 #[.slice (some ⟨w.heap.size, 0, none⟩) 4 4] (w.alloc (.cells #[.slice (some ⟨g1, 0, none⟩) n n, .slice (some ⟨g2, 0, none⟩) n n, .slice (some ⟨g3, 0, none⟩) m m, .slice (some ⟨g4, 0, none⟩) m m] 24)) fun r w' => r = .returned (.bool true) ∧ GA 4 (rV g1 g2 g3 g4 n m) base w w' := by
  have lt4 : g4 < w.heap.size := (h4.lt g4 rfl).2
  have G0 := (Gr.refl w).alloc (.cells #[.slice (some ⟨g1, 0, none⟩) n n, .slice (some ⟨g2, 0, none⟩) n n, .slice (some ⟨g3, 0, none⟩) m m, .slice (some ⟨g4, 0, none⟩) m m] 24)
  have hcs : ∀ k, k < 4 → (w.alloc (.cells #[.slice (some ⟨g1, 0, none⟩) n n, .slice (some ⟨g2, 0, none⟩) n n, .slice (some ⟨g3, 0, none⟩) m m, .slice (some ⟨g4, 0, none⟩) m m] 24)).cell? ⟨w.heap.size, k, none⟩ = some (rV g1 g2 g3 g4 n m k) := fun k hk => by
    simp only [World.cell?, blkN]
    rcases (show k = 0 ∨ k = 1 ∨ k = 2 ∨ k = 3 by omega) with rfl | rfl | rfl | rfl <;> rfl
  have e1 := owns_base (G0.owns h1) b0
  have e2 := owns_base (G0.owns h2) (base' := base) (by omega)
  have e3 := owns_base (G0.owns h3) (base' := base) (by omega)
  have e4 := owns_base (G0.owns h4) (base' := base) (by omega)
  have sz := G0.size
  clear h1 h2 h3 h4
  generalize w.alloc (.cells #[.slice (some ⟨g1, 0, none⟩) n n, .slice (some ⟨g2, 0, none⟩) n n, .slice (some ⟨g3, 0, none⟩) m m, .slice (some ⟨g4, 0, none⟩) m m] 24) = wl at *
  have B : Bq 4 (rV g1 g2 g3 g4 n m) (fun k => if k = 0 then n else if k = 1 then n else m) base (fun k => if k = 0 then z1 else if k = 1 then z2 else if k = 2 then z3 else z4) wl := by
    refine ⟨fun k hk => ?_, fun j k hj hk b ej ek => ?_, fun k hk => ?_, fun k hk => ?_⟩
    · rcases (show k = 0 ∨ k = 1 ∨ k = 2 ∨ k = 3 by omega) with rfl | rfl | rfl | rfl <;> exact ⟨_, rfl⟩
    · rw [rV_block] at ej ek
      injection ej with ej
      injection ek with ek
      rcases (show j = 0 ∨ j = 1 ∨ j = 2 ∨ j = 3 by omega) with rfl | rfl | rfl | rfl <;> rcases (show k = 0 ∨ k = 1 ∨ k = 2 ∨ k = 3 by omega) with rfl | rfl | rfl | rfl <;> simp at ej ek <;> omega
    · show (if k = 0 then n else if k = 1 then n else m) ≤ 64
      split
      · exact hn
      · split
        · exact hn
        · exact hm
    · rcases (show k = 0 ∨ k = 1 ∨ k = 2 ∨ k = 3 by omega) with rfl | rfl | rfl | rfl
      · exact e1
      · exact e2
      · exact e3
      · exact e4
  exact (apart23 4 w.heap.size 4 base (rV g1 g2 g3 g4 n m) _ _ wl (by omega) (by omega) (by omega) (by omega) B (by omega) hcs).mono fun r w' ⟨h, hg⟩ => ⟨h, GA.pre G0 hg⟩
end Go.Proofs.YtlhpkflknfmjcaaGreatDoor.Apt
namespace Go.Proofs.YtlhpkflknfmjcaaGreatDoor.Apt
open Go.RowKit
set_option linter.unusedVariables false

/-! WheelKeeps: the walk -/
theorem cells_of {w : World} {base g n cap : Nat} {f : Nat → Nat × Nat} (h : w.ownsRow base 54 1 (.slice (some ⟨g, 0, none⟩) n cap) n (cz ((List.range n).map f))) : ∀ j, j < n → w.cell? ⟨g, j, none⟩ = some (.complex .f64 (f j).1 (f j).2) := fun j hj => by
  have e : ((List.range n).map f).getD j (0, 0) = f j := by
    rw [List.getD_eq_getElem?_getD, List.getElem?_map, List.getElem?_range hj]; rfl
  have := ownsC_cell' h j hj
  rw [e] at this
  exact this
theorem cr_of {w : World} {base g n : Nat} {zs : List (Nat × Nat)} (h : w.ownsRow base 54 1 (.slice (some ⟨g, 0, none⟩) n n) n (cz zs)) : CR w (some ⟨g, 0, none⟩) n n zs := by
  obtain ⟨ad, cap, e, hr⟩ := CR.of_owns h
  injection e with e1 e2 e3
  subst e1
  subst e3
  exact hr
theorem copyR2 (g n : Nat) (zs : List (Nat × Nat)) (w : World) {base : Nat} (h : w.ownsRow base 54 1 (.slice (some ⟨g, 0, none⟩) n n) n (cz zs)) (n0 : 0 < n) (hn : n ≤ 4398046511104) :
    Calls Tryz.prog 10 #[.slice (some ⟨g, 0, none⟩) n n] w fun r w' => ∃ b cap', r = .returned (.slice (some ⟨b, 0, none⟩) n cap') ∧ w'.ownsRow w.heap.size 54 1 (.slice (some ⟨b, 0, none⟩) n cap') n (cz zs) ∧ Gr w w' :=
  (copyR g n n zs w (cr_of h) n0 hn).mono fun r w' ⟨ad, cap, e, ho, hg⟩ => by
    obtain ⟨b, c, ev, _⟩ := owns_form ho n0
    rw [ev] at e ho
    exact ⟨b, c, e, ho, hg⟩
theorem rV_off {g1 g2 g3 g4 k : Nat} (n m c : Nat) (b1 : g1 < g2) (b2 : g2 < g3) (b3 : g3 < g4) (h : g4 < k) : ∀ i, (Value.slice (some ⟨k, 0, none⟩) n c).ownBlock = some i → ∀ j, j < 4 → (rV g1 g2 g3 g4 n m j).ownBlock ≠ some i := fun i hi j hj e => by
  rw [rV_block] at e
  injection hi with hi
  injection e with e
  subst hi
  rcases (show j = 0 ∨ j = 1 ∨ j = 2 ∨ j = 3 by omega) with rfl | rfl | rfl | rfl <;> simp at e <;> omega
set_option maxRecDepth 20000 in
set_option maxHeartbeats 4000000 in
theorem keepsW (x : Int) (w : World) (hT : TabAt 2 Lib.deBruijn64tab w) : Calls Tryz.prog 3 #[.int .i64 x] w fun r w' => r = .returned (.bool true) ∧ Gr w w' := by
  have AW := hide (awakeE w hT)
  have PK := hide (fun w1 => pick7 x w1)
  obtain ⟨N, hN⟩ : ∃ N : Nat → Nat, ∀ p, N p = 2 ^ p := ⟨_, fun _ => rfl⟩
  obtain ⟨M, hM⟩ : ∃ M : Nat → Nat, ∀ p, M p = max (2 ^ p / 2) 1 := ⟨_, fun _ => rfl⟩
  have hN0 : Hid (∀ p : Nat, p ≤ 6 → 0 < N p ∧ N p ≤ 64) := fun p hp => by
    rw [hN]; exact ⟨Nat.two_pow_pos p, Nat.pow_le_pow_right (n := 2) (by omega) hp⟩
  have hM0 : Hid (∀ p : Nat, p ≤ 6 → 0 < M p ∧ M p ≤ 64) := fun p hp => by
    have : 2 ^ p ≤ 2 ^ 6 := Nat.pow_le_pow_right (n := 2) (by omega) hp
    rw [hM]; omega
  have R1 : Hid (∀ (p : Nat) w1, p ≤ 6 → Gr w w1 → Calls Tryz.prog 8 #[.int .i64 (p : Int)] w1 fun r w' => ∃ g, r = .returned (.tuple #[.slice (some ⟨g, 0, none⟩) (N p) (N p), .int .i64 0]) ∧ Hid (w1.heap.size ≤ g) ∧ Hid (w'.ownsRow g 54 1 (.slice (some ⟨g, 0, none⟩) (N p) (N p)) (N p) (cz ((List.range (N p)).map (tv T7 p)))) ∧ Hid (Gr w1 w')) := fun p w1 hp g => (rowE p w1 (by omega) (tab_gr hT g)).mono fun r w' ⟨g, h1, h2, h3, h4⟩ => by
    rw [← hN] at h2 h3
    exact ⟨g, h2, h1, h3, h4⟩
  have H1 : Hid (∀ (p : Nat) w1, p ≤ 6 → Gr w w1 → Calls Tryz.prog 9 #[.int .i64 (p : Int)] w1 fun r w' => ∃ g, r = .returned (.tuple #[.slice (some ⟨g, 0, none⟩) (M p) (M p), .int .i64 0]) ∧ Hid (w1.heap.size ≤ g) ∧ Hid (w'.ownsRow g 54 1 (.slice (some ⟨g, 0, none⟩) (M p) (M p)) (M p) (cz ((List.range (M p)).map (tv T7 p)))) ∧ Hid (Gr w1 w')) := fun p w1 hp g => (halfN p w1 (by omega) (tab_gr hT g)).mono fun r w' ⟨g, m, h1, h2, h3, h4, h5, _⟩ => by
    have h5 := h5.out
    rw [← hM] at h5
    subst h5
    exact ⟨g, h2, h1, h3, h4⟩
  have R2 := hide R1.out
  have R3 := hide R1.out
  have H2 := hide H1.out
  clear hT hN hM
  go_enter Tryz.func3, Tryz.ntmps3
  go_wp2_with (first
    | (go_at_call 6; (with_reducible refine AW.out.mono ?_); rintro r w1 ⟨rfl, gA⟩; clear AW)
    | (go_at_call 7; (with_reducible refine (PK.out _).mono ?_); rintro r w2 ⟨p, rfl, hp, rfl⟩; obtain ⟨n0, n1⟩ := hN0.out p hp; obtain ⟨m0, m1⟩ := hM0.out p hp; replace R1 := hide (R1.out p); replace R2 := hide (R2.out p); replace R3 := hide (R3.out p); replace H1 := hide (H1.out p); replace H2 := hide (H2.out p); clear hN0 hM0; generalize N p = n at *; generalize M p = m at *; generalize tv T7 p = f at *)
    | (go_at_call 8; (with_reducible refine (R1.out _ hp gA).mono ?_); rintro r w3 ⟨ga, rfl, la, oa, g3⟩; clear R1)
    | (go_at_call 8; (with_reducible refine (R2.out _ hp (gA.trans g3.out)).mono ?_); rintro r w4 ⟨gb, rfl, lb, ob, g4⟩; clear R2)
    | (go_at_call 9; (with_reducible refine (H1.out _ hp ((gA.trans g3.out).trans g4.out)).mono ?_); rintro r w5 ⟨gc, rfl, lc, oc, g5⟩; clear H1)
    | (go_at_call 9; (with_reducible refine (H2.out _ hp (((gA.trans g3.out).trans g4.out).trans g5.out)).mono ?_); rintro r w6 ⟨gd, rfl, ld, od, g6⟩; clear H2)
    | (go_at_call 10; (with_reducible refine (copyR2 ga n _ _ (((g4.out.trans g5.out).trans g6.out).owns oa.out) n0 (by omega)).mono ?_); rintro r w7 ⟨bW, cW, rfl, oW, g7⟩; have A7 := hide ((((g4.out.trans g5.out).trans g6.out).trans g7).owns oa.out); have B7 := hide (((g5.out.trans g6.out).trans g7).owns ob.out); have C7 := hide ((g6.out.trans g7).owns oc.out); have D7 := hide (g7.owns od.out); have G7 := hide (((((gA.trans g3.out).trans g4.out).trans g5.out).trans g6.out).trans g7); have b0 : w.heap.size ≤ ga := Nat.le_trans gA.size la.out; have ab : ga < gb := Nat.lt_of_lt_of_le (oa.out.lt ga rfl).2 lb.out; have bc : gb < gc := Nat.lt_of_lt_of_le (ob.out.lt gb rfl).2 lc.out; have cd : gc < gd := Nat.lt_of_lt_of_le (oc.out.lt gc rfl).2 ld.out; have dW : gd < bW := Nat.lt_of_lt_of_le (od.out.lt gd rfl).2 (oW.lt bW rfl).1; clear la lb lc ld oa ob oc od g3 g4 g5 g6 gA)
    | (go_at_call 11; (with_reducible refine (sameRowsE ga gb n n n f _ (cells_of A7.out) (cells_of B7.out) (by omega)).mono ?_); rintro r w8 ⟨rfl, g8⟩)
    | (go_at_call 11; (with_reducible refine (sameRowsE gc gd m m m f _ (cells_of (g8.owns C7.out)) (cells_of (g8.owns D7.out)) (by omega)).mono ?_); rintro r w9 ⟨rfl, g9⟩; have A9 := hide ((g8.trans g9).owns A7.out); have B9 := hide ((g8.trans g9).owns B7.out); have C9 := hide ((g8.trans g9).owns C7.out); have D9 := hide ((g8.trans g9).owns D7.out); have W9 := hide ((g8.trans g9).owns oW); have G9 := hide ((G7.out.trans g8).trans g9); clear A7 B7 C7 D7 oW G7 g8 g9)
    | (go_at_call 12; (with_reducible refine (apart4 ga gb gc gd n m w.heap.size _ _ _ _ w9 n1 m1 b0 ab bc cd A9.out B9.out C9.out D9.out).mono ?_); rintro r w10 ⟨rfl, GG⟩; have G10 := hide (GG.1 w G9.out (Nat.le_refl _)); have W10 := hide (GG.owns W9.out (rV_off n m cW ab bc cd dW)); clear A9 B9 C9 D9 W9 G9 GG)
    | (go_at_call 8; (with_reducible refine (R3.out _ hp G10.out).mono ?_); rintro r w11 ⟨gz, rfl, lz, oz, g11⟩; clear R3)
    | (go_at_call 11; (with_reducible refine (sameRowsE gz bW n n cW f _ (cells_of oz.out) (cells_of (g11.out.owns W10.out)) (by omega)).mono ?_); rintro r w12 ⟨rfl, g12⟩))
  go_ret
  exact ⟨rfl, (G10.out.trans g11.out).trans g12⟩
end Go.Proofs.YtlhpkflknfmjcaaGreatDoor.Apt
namespace Go.Proofs.YtlhpkflknfmjcaaGreatDoor
open Go.ChangeShapes Go.WideShapes Go.ChangeAt Go.RowKit
set_option linter.unusedVariables false

/-! THE FRAME OF THE STATEMENTS ON DYADS -/
theorem own : ownKnob Tryz.prog.godebug = none := by kernel_rfl
theorem laidOut : laidOutB Tryz.prog = true := by kernel_rfl
theorem cells37 : Tryz.prog.cellsOf 91 = 1 := by kernel_rfl
theorem cells24 : Tryz.prog.cellsOf 121 = 3 := by kernel_rfl
theorem cells22 : Tryz.prog.cellsOf 46 = 1 := by kernel_rfl
theorem cells3 : Tryz.prog.cellsOf 3 = 1 := by kernel_rfl
theorem cells4 : Tryz.prog.cellsOf 4 = 1 := by kernel_rfl
theorem cells5 : Tryz.prog.cellsOf 5 = 1 := by kernel_rfl
theorem cells96 : Tryz.prog.cellsOf 227 = 64 := by kernel_rfl
theorem gTab : Tryz.prog.globalNamed "math/bits.deBruijn64tab" = some 2 := by kernel_rfl
theorem tTab : (Tryz.prog.globals[2]?).map (·.type) = some 227 := by kernel_rfl
theorem laid_list {H : Type} : (Rows.laid_math_bits_deBruijn64tab : DataW H) = .agg (Lib.deBruijn64tab.map fun (n : Nat) => .lit (.int .u8 (n : Int))) := rfl
theorem tab_len : Lib.deBruijn64tab.length = 64 := rfl
set_option maxRecDepth 100000 in
/-- what the listed variable gives: the table's cells -/
theorem tab_of_laid {W : World} (h : laidMetH Tryz.prog [("math/bits.deBruijn64tab", Rows.laid_math_bits_deBruijn64tab)] W) : TabAt 2 Lib.deBruijn64tab W := by
  rw [MakeChecks.laidMetH_plain _ _ _ (by kernel_rfl)] at h
  obtain ⟨ps, ⟨g0, t0, cs0, f0, p0, q0, hg0, ht0, hv0, hd0, _, _⟩, _, _⟩ := h
  obtain rfl := Option.some.inj (gTab.symm.trans hg0)
  obtain rfl := Option.some.inj (tTab.symm.trans ht0)
  obtain ⟨xs, m1, rfl, hx1, hlen, hn3, hel⟩ := DataW.trod_array Tryz.underlying227 hd0
  rw [laid_list] at hx1
  have hx2 : Lib.deBruijn64tab.map (fun (n : Nat) => (.lit (.int .u8 (n : Int)) : DataW Unit)) = xs.map (·.1) := by
    injection hx1 with h1 h2
    injection h1
  intro j hj
  rw [tab_len] at hj
  have h0 := hel j hj
  rw [cells5, Nat.mul_one] at h0
  have hxj : xs[j]? = some xs[j] := List.getElem?_eq_getElem (by omega)
  rw [hxj] at h0
  obtain ⟨n, e1, e2, _⟩ := DataW.trod_int Tryz.underlying5 h0
  have e3 : (xs.map (·.1))[j]? = some (.lit (.int .u8 n)) := by
    rw [List.getElem?_map, hxj, e2]; rfl
  rw [← hx2, List.getElem?_map, List.getElem?_eq_getElem (by rw [tab_len]; exact hj)] at e3
  simp only [Option.map_some] at e3
  injection e3 with e3
  injection e3 with e3
  injection e3 with _ e3
  rw [World.var?_cell hg0 hv0 j, List.getD_eq_getElem?_getD, List.getElem?_eq_getElem (by rw [tab_len]; exact hj)]
  simp only [Option.getD_some]
  have e5 : cs0.toList[j]? = some (.int .u8 n) := by
    have : (cs0.toList.drop j).take 1 = [.int .u8 n] := e1
    have h6 : ((cs0.toList.drop j).take 1)[0]? = some (.int .u8 n) := by rw [this]; rfl
    rw [List.getElem?_take_of_lt (by omega), List.getElem?_drop] at h6
    exact h6
  rw [Array.getElem?_toList] at e5
  rw [e5]
  exact congrArg (fun z => some (Value.int .u8 z)) e3.symm
/-- the door's own heap meets the condition -/
theorem door_met (os : Os) (args : Array Value) : laidMetH Tryz.prog [("math/bits.deBruijn64tab", Rows.laid_math_bits_deBruijn64tab)] ((World.doorLaid Tryz.prog 400 os).forCall (fun _ _ => 0) ⟨#[], args, []⟩).memory :=
  laidMetH_of_parts3 (fuel := 8) (laidMet_of_run' 8 (by kernel_rfl) (by kernel_rfl)) (by kernel_rfl) (by kernel_rfl)
end Go.Proofs.YtlhpkflknfmjcaaGreatDoor
