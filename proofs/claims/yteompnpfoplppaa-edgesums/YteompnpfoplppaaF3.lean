import Derived.Test.YteompnpfoplppaaF2
namespace Go.Proofs.Yteompnpfoplppaa
open Go.RowKit
open Ieee
set_option linter.unusedVariables false

theorem mark_eq (j : Nat) (h : j < 12) : (FloatKind.f64.format.order (markF j) (floatOfInt .f64 (8000024 + (j : Int))) == some .eq) = true := by
  have : ∀ j : Nat, j < 12 → (FloatKind.f64.format.order (floatOfInt .f64 (8000024 + (j : Int))) (floatOfInt .f64 (8000024 + (j : Int))) == some .eq) = true := by decide +kernel
  exact this j h

set_option maxHeartbeats 1600000 in
theorem kept21 (ad : Option Addr) (n cap g : Nat) (f : Nat → Nat) (w : World) (h : FRow w ad n cap f) (hn : n ≤ 3000)
    (h1 : ∀ j, j < n → w.cell? ⟨g, j, none⟩ = some (.float .f64 (f j))) (h2 : ∀ j, j < 12 → w.cell? ⟨g, n + j, none⟩ = some (.float .f64 (markF j))) :
    Calls Try.prog 21 #[.slice (some ⟨g, 0, none⟩) n (n + 12), .slice ad n cap] w fun e w' => e = .returned (.bool true) ∧ Gr w w' := by
  have hl := h.le
  have hm := h.max
  have H : Hid (FRow w ad n cap f) := h
  have H1 : Hid (∀ j, j < n → w.cell? ⟨g, j, none⟩ = some (.float .f64 (f j))) := h1
  have H2 : Hid (∀ j, j < 12 → w.cell? ⟨g, n + j, none⟩ = some (.float .f64 (markF j))) := h2
  clear h h1 h2
  go_enter Try.func21, Try.ntmps21
  go_wp2
  go_loopw [6] (fun i wr => ∃ k : Nat, k ≤ n + 12 ∧ i = .int .i64 (k : Int) ∧ Hid (Gr w wr)) (fun i _ => n + 12 - (intOf i).toNat)
  case atStart => exact ⟨0, by omega, rfl, Gr.refl _⟩
  case round =>
    obtain ⟨k, hk, rfl, hg⟩ := hrel
    by_cases hlt : k < n
    · obtain ⟨b, off, rfl, hb, hc⟩ := H.out.cells (by omega)
      have c1 := hg.out.keep (H1.out k hlt)
      have c2 := hg.out.keep (hc k hlt)
      have HS : Hid (∀ w1, Calls Try.prog 7 #[.float .f64 (f k), .float .f64 (f k)] w1 fun e w' => e = .returned (.bool true) ∧ w' = w1) := fun w1 => same_true _ _ w1 (sameB_refl _)
      generalize f k = x at *
      clear hc
      have i1 : (k : Int) < (n : Int) := by omega
      have i2 : (k : Int) < (n : Int) + 12 := by omega
      have i3 : decide ((n : Int) ≤ (k : Int)) = false := by simp; omega
      have i4 : decide (n ≤ k) = false := by simp; omega
      have i5 : (decide ((k : Int) < (n : Int))) = true := by simp; omega
      go_wp2
      go_quiet ((go_at_call 7; exact Calls.quiet_of_same (HS.out _)))
      go_wp2
      go_roundw
      case rel => exact ⟨k + 1, by omega, by go_num, hg.out.drewN _⟩
      case measure => simp only [intOf]; omega
    · by_cases hlt2 : k < n + 12
      · obtain ⟨j, hj⟩ : ∃ j, j = k - n := ⟨_, rfl⟩
        have c1 : wr.cell? ⟨g, k, none⟩ = some (.float .f64 (markF j)) := by
          have := hg.out.keep (H2.out j (by omega))
          rw [show n + j = k by omega] at this
          exact this
        have HM : Hid (∀ w1, Calls Try.prog 48 #[.int .i64 1, .int .i64 (IntKind.i64.wrap ((k : Int) - (n : Int)))] w1 fun e w' => e = .returned (.int .i64 (8000024 + (j : Int))) ∧ w' = w1) := by
          intro w1
          rw [show IntKind.i64.wrap ((k : Int) - (n : Int)) = (j : Int) by rw [IntWalk.i64_in _ ⟨by omega, by omega⟩]; omega]
          exact mark48 1 j w1 (by omega) (by omega) (by omega) (by omega)
        have HM2 : Hid (∀ w1, Calls Try.prog 48 #[.int .i64 1, .int .i64 ((k : Int) - (n : Int))] w1 fun e w' => e = .returned (.int .i64 (8000024 + (j : Int))) ∧ w' = w1) := by
          intro w1
          rw [show ((k : Int) - (n : Int)) = (j : Int) by omega]
          exact mark48 1 j w1 (by omega) (by omega) (by omega) (by omega)
        have he := mark_eq j (by omega)
        clear hj
        have i1 : ¬ (k : Int) < (n : Int) := by omega
        have i2 : (k : Int) < (n : Int) + 12 := by omega
        have i3 : decide (k < n) = false := by simp; omega
        have i4 : decide (n ≤ k) = true := by simp; omega
        generalize markF j = x at *
        go_wp2
        go_quiet (first | (go_at_call 48; with_reducible exact Calls.quiet_of_same (HM.out _)) | (go_at_call 48; with_reducible exact Calls.quiet_of_same (HM2.out _)))
        go_wp2
        go_roundw
        case rel => exact ⟨k + 1, by omega, by go_num, hg.out.drewN _⟩
        case measure => simp only [intOf]; omega
      · have i2 : ¬ (k : Int) < (n : Int) + 12 := by omega
        go_wp2
        go_ret
        exact ⟨rfl, hg.out⟩
end Go.Proofs.Yteompnpfoplppaa
