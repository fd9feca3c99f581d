import Derived.Test.YtlooaoijacfcfaaDoorXM
namespace Go.Proofs.YtlooaoijacfcfaaDoor
open Go.RowKit
set_option linter.unusedVariables false

theorem cmpI_sg (a b : Int) : cmpI a b = sg (a - b) := by
  rcases Int.lt_trichotomy a b with h | h | h
  · rw [cmpI_lt h, sg_neg (by omega)]
  · subst h; rw [cmpI_eq rfl, Int.sub_self, sg_zero]
  · rw [cmpI_gt h, sg_pos (by omega)]
theorem two_blocks (w : World) (a0 a1 a2 b0 b1 b2 : Value) (W0 : World) (h : W0 = (w.alloc (.cells #[a0, a1, a2] 24)).alloc (.cells #[b0, b1, b2] 24)) :
    (W0.cell? ⟨w.heap.size, 0, none⟩ = some a0 ∧ W0.cell? ⟨w.heap.size, 1, none⟩ = some a1 ∧ W0.cell? ⟨w.heap.size, 2, none⟩ = some a2 ∧ W0.cell? ⟨w.heap.size + 1, 0, none⟩ = some b0 ∧ W0.cell? ⟨w.heap.size + 1, 1, none⟩ = some b1 ∧ W0.cell? ⟨w.heap.size + 1, 2, none⟩ = some b2) ∧ Gr w W0 := by
  have h0 : W0.heap[w.heap.size]? = some (.cells #[a0, a1, a2] 24) := by
    rw [h]
    show ((w.heap.push _).push _)[w.heap.size]? = _
    simp only [Array.getElem?_push, Array.size_push]
    rw [if_neg (by omega), if_pos trivial]
  have h1 : W0.heap[w.heap.size + 1]? = some (.cells #[b0, b1, b2] 24) := by
    rw [h]
    show ((w.heap.push _).push _)[w.heap.size + 1]? = _
    simp only [Array.getElem?_push, Array.size_push]
    rw [if_pos trivial]
  exact ⟨⟨by simp [World.cell?, h0], by simp [World.cell?, h0], by simp [World.cell?, h0], by simp [World.cell?, h1], by simp [World.cell?, h1], by simp [World.cell?, h1]⟩, h ▸ ((Gr.refl w).alloc _).alloc _⟩
theorem gr2 {w : World} (o1 o2 : Obj) : Gr w ((w.alloc o1).alloc o2) := ((Gr.refl w).alloc o1).alloc o2

end Go.Proofs.YtlooaoijacfcfaaDoor
