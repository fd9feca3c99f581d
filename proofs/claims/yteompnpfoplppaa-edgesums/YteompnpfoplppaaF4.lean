import Derived.Test.YteompnpfoplppaaF3
namespace Go.Proofs.Yteompnpfoplppaa
open Go.RowKit
open Ieee
set_option linter.unusedVariables false

theorem sums_top (ad : Option Addr) (len n cap : Nat) (up : Bool) (w : World) (P : Nat → Prop) (C : World → Nat → Prop) (hb : len ≤ 9223372036854775807) (hn : (len ≤ 3000 ∧ n = len) ∨ (3000 < len ∧ n = 3000)) (hc : len ≤ cap)
    (HL : Hid (∀ w1, Gr w w1 → Calls Try.prog 18 #[.slice ad n cap] w1 fun e w' => ∃ g, e = .returned (.slice (some ⟨g, 0, none⟩) n (n + 12)) ∧ C w' g ∧ Gr w1 w'))
    (HG : Hid (∀ w1 w2 g, C w1 g → Gr w1 w2 → C w2 g))
    (HS : Hid (∀ w1 g, C w1 g → Calls Try.prog 19 #[.slice (some ⟨g, 0, none⟩) n (n + 12), .bool up] w1 fun e w' => ∃ v, e = .returned (.float .f64 v) ∧ P v ∧ Gr w1 w'))
    (HR : Hid (∀ w1, Gr w w1 → Calls Try.prog 20 #[.slice ad n cap, .bool up] w1 fun e w' => ∃ v, e = .returned (.float .f64 v) ∧ P v ∧ Gr w1 w'))
    (HP : Hid (∀ v v', P v → P v' → sameB v v' = true))
    (HK : Hid (∀ w1 g, Gr w w1 → C w1 g → Calls Try.prog 21 #[.slice (some ⟨g, 0, none⟩) n (n + 12), .slice ad n cap] w1 fun e w' => e = .returned (.bool true) ∧ Gr w1 w')) :
    Calls Try.prog 4 #[.slice ad len cap, .bool up] w fun e w' => e = .returned (.bool true) ∧ Gr w w' := by
  rcases hn with ⟨h1, rfl⟩ | ⟨h1, rfl⟩
  · have h1' : ¬ (3000 : Int) < (n : Int) := by omega
    go_enter Try.func4, Try.ntmps4
    go_wp2_with (first | (go_at_call 6; refine (awake4 _).mono ?_; rintro e w' ⟨rfl, rfl⟩) | (go_at_call 18; refine (HL.out _ (Gr.refl _)).mono ?_; rintro e w1 ⟨g, rfl, c1, g1⟩) | (go_at_call 19; refine (HS.out _ _ c1).mono ?_; rintro e w2 ⟨v2, rfl, p2, g2⟩) | (go_at_call 20; refine (HR.out _ (g1.trans g2)).mono ?_; rintro e w3 ⟨v3, rfl, p3, g3⟩; have f := HP.out _ _ p2 p3) | (go_at_call 7; refine (same_true _ _ _ (by assumption)).mono ?_; rintro e w' ⟨rfl, rfl⟩) | (go_at_call 21; refine (HK.out _ _ ((g1.trans g2).trans g3) (HG.out _ _ _ c1 (g2.trans g3))).mono ?_; rintro e w4 ⟨rfl, g4⟩))
    go_ret
    exact ⟨rfl, ((g1.trans g2).trans g3).trans g4⟩
  · have h1' : (3000 : Int) < (len : Int) := by omega
    go_enter Try.func4, Try.ntmps4
    go_wp2_with (first | (go_at_call 6; refine (awake4 _).mono ?_; rintro e w' ⟨rfl, rfl⟩) | (go_at_call 18; refine (HL.out _ (Gr.refl _)).mono ?_; rintro e w1 ⟨g, rfl, c1, g1⟩) | (go_at_call 19; refine (HS.out _ _ c1).mono ?_; rintro e w2 ⟨v2, rfl, p2, g2⟩) | (go_at_call 20; refine (HR.out _ (g1.trans g2)).mono ?_; rintro e w3 ⟨v3, rfl, p3, g3⟩; have f := HP.out _ _ p2 p3) | (go_at_call 7; refine (same_true _ _ _ (by assumption)).mono ?_; rintro e w' ⟨rfl, rfl⟩) | (go_at_call 21; refine (HK.out _ _ ((g1.trans g2).trans g3) (HG.out _ _ _ c1 (g2.trans g3))).mono ?_; rintro e w4 ⟨rfl, g4⟩))
    go_ret
    exact ⟨rfl, ((g1.trans g2).trans g3).trans g4⟩

theorem sums_law (ad : Option Addr) (len cap : Nat) (F : Nat → Bool × Nat) (up : Bool) (w : World) (hF : ∀ j, j < len → (F j).2 < 9223372036854775808) (h : FRow w ad len cap (fun j => W (F j).1 (F j).2)) :
    Calls Try.prog 4 #[.slice ad len cap, .bool up] w fun e w' => e = .returned (.bool true) ∧ Gr w w' := by
  obtain ⟨n, hn⟩ : ∃ n, (len ≤ 3000 ∧ n = len) ∨ (3000 < len ∧ n = 3000) := by
    by_cases hl : len ≤ 3000
    · exact ⟨len, Or.inl ⟨hl, rfl⟩⟩
    · exact ⟨3000, Or.inr ⟨by omega, rfl⟩⟩
  have hle := h.le
  have hmx := h.max
  have hrow : FRow w ad n cap (fun j => W (F j).1 (F j).2) := by
    refine ⟨by omega, h.max, h.nil, fun hp => ?_⟩
    obtain ⟨b, off, e, hb, hc⟩ := h.cells (by omega)
    exact ⟨b, off, e, hb, fun j hj => hc j (by omega)⟩
  have hFn : ∀ j, j < n → (F j).2 < 9223372036854775808 := fun j hj => hF j (by omega)
  refine sums_top ad len n cap up w (fun v => SumAt up F n v) (fun w1 g => g < w1.heap.size ∧ (∀ j, j < n → w1.cell? ⟨g, j, none⟩ = some (.float .f64 (W (F j).1 (F j).2))) ∧ (∀ j, j < 12 → w1.cell? ⟨g, n + j, none⟩ = some (.float .f64 (markF j)))) (by omega) hn hle ?_ ?_ ?_ ?_ ?_ ?_
  · intro w1 g
    refine (lent18 ad n cap _ w1 (hrow.gr g) (by omega)).mono ?_
    rintro e w' ⟨b, rfl, h1, h2, h3, h4⟩
    exact ⟨b, rfl, ⟨h1, h2, h3⟩, h4⟩
  · intro w1 w2 g ⟨h1, h2, h3⟩ hg
    exact ⟨Nat.lt_of_lt_of_le h1 hg.size, fun j hj => hg.keep (h2 j hj), fun j hj => hg.keep (h3 j hj)⟩
  · intro w1 g ⟨h1, h2, h3⟩
    refine (sum22 g 0 n (n + 12) F up w1 (by omega) h1 (fun j hj => by rw [Nat.zero_add]; exact h2 j hj) hFn).mono ?_
    rintro e w' ⟨v, rfl, hv, hg⟩
    exact ⟨v, rfl, hv, Gr.of_grown hg⟩
  · intro w1 g
    by_cases h0 : n = 0
    · subst h0
      refine (rsum20_empty ad cap up w1).mono ?_
      rintro e w' ⟨v, rfl, hv, hg⟩
      exact ⟨v, rfl, hv, hg⟩
    · obtain ⟨b, off, rfl, hb, hc⟩ := hrow.cells (by omega)
      exact rsum20 b off n cap F up w1 (by omega) (Nat.lt_of_lt_of_le hb g.size) (fun j hj => g.keep (hc j hj)) hFn
  · intro v v' h1 h2
    exact same_of (sumAt_same n hFn v v' h1 h2)
  · intro w1 g hg ⟨h1, h2, h3⟩
    exact kept21 ad n cap g _ w1 (hrow.gr hg) (by omega) h2 h3
end Go.Proofs.Yteompnpfoplppaa
