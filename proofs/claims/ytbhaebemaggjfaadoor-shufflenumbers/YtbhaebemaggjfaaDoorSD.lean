import Derived.Test.YtbhaebemaggjfaaDoorSC
import Derived.Laws.Externs
import Derived.Deep.QuietTactic
import Derived.Deep.RegionHeld
namespace Go.Proofs.YtbhaebemaggjfaaDoor
open Go.RowKit
set_option linter.unusedVariables false

theorem Gr.keep {wo wn : World} (g : Gr wo wn) {b o : Nat} {v : Value} (h : wo.cell? ⟨b, o, none⟩ = some v) : wn.cell? ⟨b, o, none⟩ = some v := (g.cell (World.block_lt_of_cell? wo _ h)).trans h
theorem Gr.drewN {a w : World} (h : Gr a w) (n : Nat) : Gr a (w.drewN n) := ⟨h.os, h.output, h.size, h.block⟩
theorem bits14 (x : Nat) (w : World) : (callFunc 25 #[.float .f64 x]).run Tryd.prog w = .ok (.value (.int .u64 x)) w := by
  kernel_rfl
theorem sameF13 (x : Nat) (w : World) : Calls Tryd.prog 26 #[.float .f64 x, .float .f64 x] w fun e w' => e = .returned (.bool true) ∧ w' = w := by
  have h1 := bits14
  go_enter Tryd.func26, Tryd.ntmps26
  go_wp2
  go_ret
  exact ⟨rfl, rfl⟩
theorem sameN12 (x y : Nat) (w : World) : Calls Tryd.prog 19 #[.complex .f64 x y, .complex .f64 x y] w fun e w' => e = .returned (.bool true) ∧ w' = w := by
  have H : Hid (∀ x w, Calls Tryd.prog 26 #[.float .f64 x, .float .f64 x] w fun e w' => e = .returned (.bool true) ∧ w' = w) := sameF13
  go_enter Tryd.func19, Tryd.ntmps19
  go_wp2_with (go_at_call 26; (with_reducible refine (H.out _ _).mono ?_); rintro r w1 ⟨rfl, rfl⟩)
  go_ret
  exact ⟨rfl, rfl⟩
/-- rows of the same numbers -/
theorem sameRows11 (p1 p2 n : Nat) (f g : Nat → Nat) (w : World) (hn : n ≤ 1048576) (h1 : ∀ j, j < n → w.cell? ⟨p1, j, none⟩ = some (.complex .f64 (f j) (g j))) (h2 : ∀ j, j < n → w.cell? ⟨p2, j, none⟩ = some (.complex .f64 (f j) (g j))) :
    Calls Tryd.prog 8 #[.slice (some ⟨p1, 0, none⟩) n n, .slice (some ⟨p2, 0, none⟩) n n] w fun e w' => e = .returned (.bool true) ∧ Gr w w' := by
  have H : Hid (∀ x y w, Calls Tryd.prog 19 #[.complex .f64 x y, .complex .f64 x y] w fun e w' => e = .returned (.bool true) ∧ w' = w) := sameN12
  have H1 : Hid (∀ j, j < n → w.cell? ⟨p1, j, none⟩ = some (.complex .f64 (f j) (g j))) := h1
  have H2 : Hid (∀ j, j < n → w.cell? ⟨p2, j, none⟩ = some (.complex .f64 (f j) (g j))) := h2
  clear h1 h2
  go_enter Tryd.func8, Tryd.ntmps8
  go_wp2
  go_loopw [5] (fun i wr => ∃ k : Nat, k ≤ n ∧ i = .int .i64 (k : Int) ∧ Hid (Gr w wr)) (fun i _ => n - (intOf i).toNat)
  case atStart => exact ⟨0, by omega, rfl, Gr.refl _⟩
  case round =>
    obtain ⟨k, hk, rfl, hg⟩ := hrel
    by_cases hlt : k < n
    · have hc1 := hg.out.keep (H1.out k hlt)
      have hc2 := hg.out.keep (H2.out k hlt)
      generalize f k = x at *
      generalize g k = y at *
      have i1 : (k : Int) < (n : Int) := by omega
      go_wp2
      go_quiet ((go_at_call 19; exact Calls.quiet_of_same (H.out _ _ _)))
      go_wp2
      go_roundw
      case rel => exact ⟨k + 1, by omega, by go_num, by first | exact hg.out | exact hg.out.drewN _ | exact (hg.out.drewN _).drewN _⟩
      case measure => simp only [intOf]; omega
    · have hkn : k = n := by omega
      subst hkn
      go_wp2
      go_ret
      exact ⟨rfl, hg.out⟩
end Go.Proofs.YtbhaebemaggjfaaDoor
