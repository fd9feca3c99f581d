import Derived.Test.YtbhaebemaggjfaaDoorSD
namespace Go.Proofs.YtbhaebemaggjfaaDoor
open Go.RowKit
set_option linter.unusedVariables false

theorem TabF.gr {w w' : World} (h : TabF w) (g : Gr w w') : TabF w' := fun j hj => g.keep (h j hj)
theorem hide {p : Prop} (h : p) : Hid p := h
set_option maxHeartbeats 4000000 in
/-- Row of four numbers -/
theorem row10 (b : Nat) (x0 y0 x1 y1 x2 y2 x3 y3 : Nat) (w : World) (hT : TabF w) (h0 : w.cell? ⟨b, 0, none⟩ = some (.complex .f64 x0 y0)) (h1 : w.cell? ⟨b, 1, none⟩ = some (.complex .f64 x1 y1)) (h2 : w.cell? ⟨b, 2, none⟩ = some (.complex .f64 x2 y2)) (h3 : w.cell? ⟨b, 3, none⟩ = some (.complex .f64 x3 y3)) :
    Calls Tryd.prog 5 #[.slice (some ⟨b, 0, none⟩) 4 4] w fun r w' => r = .returned (.tuple #[.slice (some ⟨w.heap.size, 0, none⟩) 4 4, .int .i64 0]) ∧ w' = w.alloc (.cells #[.complex .f64 x0 y0, .complex .f64 x2 y2, .complex .f64 x1 y1, .complex .f64 x3 y3] 36) := by
  have HO : Hid (∀ w1, Calls Tryd.prog 16 #[.int .i64 4] w1 fun r w' => r = .returned (.tuple #[.int .i64 2, .bool true]) ∧ w' = w1) := fun w1 => order6_yes 2 4 w1 (by omega) rfl (by omega) (by omega)
  have HT : Hid (∀ (o : Obj) (p : Nat), p < 4 → Calls Tryd.prog 18 #[.int .i64 2, .int .i64 (p : Int)] (w.alloc o) fun r w' => r = .returned (.int .i64 (rt 2 p : Int)) ∧ w' = w.alloc o) := fun o p hp => turned9 2 p (w.alloc o) (by omega) hp (hT.gr ((Gr.refl w).alloc o))
  have k0 : ∀ o, (w.alloc o).cell? ⟨b, 0, none⟩ = some (.complex .f64 x0 y0) := fun o => ((Gr.refl w).alloc o).keep h0
  have k1 : ∀ o, (w.alloc o).cell? ⟨b, 1, none⟩ = some (.complex .f64 x1 y1) := fun o => ((Gr.refl w).alloc o).keep h1
  have k2 : ∀ o, (w.alloc o).cell? ⟨b, 2, none⟩ = some (.complex .f64 x2 y2) := fun o => ((Gr.refl w).alloc o).keep h2
  have k3 : ∀ o, (w.alloc o).cell? ⟨b, 3, none⟩ = some (.complex .f64 x3 y3) := fun o => ((Gr.refl w).alloc o).keep h3
  have hmk : ∀ w, (Instr.makeSlice 25 (.int .i64 4) (.int .i64 4)).run Tryd.prog w = .ok (.slice (some ⟨w.heap.size, 0, none⟩) 4 4) (w.alloc (.cells #[.complex .f64 0 0, .complex .f64 0 0, .complex .f64 0 0, .complex .f64 0 0] 36)) := fun _ => by kernel_rfl
  have hst : ∀ (a : Addr) (x y : Nat) (w : World), (store a (.complex .f64 x y)).run Tryd.prog w = stored Tryd.prog w a (.complex .f64 x y) .plain := fun a x y w => run_store _ _ _ _ _ rfl
  clear hT h0 h1 h2 h3
  go_enter Tryd.func5, Tryd.ntmps5
  go_wp2_with (go_at_call 16; (with_reducible refine (HO.out _).mono ?_); rintro r w1 ⟨rfl, hw⟩; obtain rfl := hw.symm)
  go_loopw [21] (fun i wr => (i = .int .i64 0 ∧ wr = w.alloc (.cells #[.complex .f64 0 0, .complex .f64 0 0, .complex .f64 0 0, .complex .f64 0 0] 36)) ∨ (i = .int .i64 1 ∧ wr = w.alloc (.cells #[.complex .f64 x0 y0, .complex .f64 0 0, .complex .f64 0 0, .complex .f64 0 0] 36)) ∨ (i = .int .i64 2 ∧ wr = w.alloc (.cells #[.complex .f64 x0 y0, .complex .f64 x2 y2, .complex .f64 0 0, .complex .f64 0 0] 36)) ∨ (i = .int .i64 3 ∧ wr = w.alloc (.cells #[.complex .f64 x0 y0, .complex .f64 x2 y2, .complex .f64 x1 y1, .complex .f64 0 0] 36)) ∨ (i = .int .i64 4 ∧ wr = w.alloc (.cells #[.complex .f64 x0 y0, .complex .f64 x2 y2, .complex .f64 x1 y1, .complex .f64 x3 y3] 36))) (fun i _ => 4 - (intOf i).toNat)
  case atStart => exact Or.inl ⟨rfl, rfl⟩
  case round =>
    rcases hrel with ⟨rfl, rfl⟩ | ⟨rfl, rfl⟩ | ⟨rfl, rfl⟩ | ⟨rfl, rfl⟩ | ⟨rfl, rfl⟩
    · have hc : Calls Tryd.prog 18 #[.int .i64 2, .int .i64 0] (w.alloc (.cells #[.complex .f64 0 0, .complex .f64 0 0, .complex .f64 0 0, .complex .f64 0 0] 36)) fun r w' => r = .returned (.int .i64 0) ∧ w' = w.alloc (.cells #[.complex .f64 0 0, .complex .f64 0 0, .complex .f64 0 0, .complex .f64 0 0] 36) := HT.out _ 0 (by omega)
      have HC := hide hc
      clear hc
      go_wp2_with (go_at_call 18; (with_reducible refine HC.out.mono ?_); rintro r w2 ⟨rfl, rfl⟩)
      go_roundw
      case rel => exact Or.inr (Or.inl ⟨rfl, trivial⟩)
      case measure => simp only [intOf]; omega
    · have hc : Calls Tryd.prog 18 #[.int .i64 2, .int .i64 1] (w.alloc (.cells #[.complex .f64 x0 y0, .complex .f64 0 0, .complex .f64 0 0, .complex .f64 0 0] 36)) fun r w' => r = .returned (.int .i64 2) ∧ w' = w.alloc (.cells #[.complex .f64 x0 y0, .complex .f64 0 0, .complex .f64 0 0, .complex .f64 0 0] 36) := HT.out _ 1 (by omega)
      have HC := hide hc
      clear hc
      go_wp2_with (go_at_call 18; (with_reducible refine HC.out.mono ?_); rintro r w2 ⟨rfl, rfl⟩)
      go_roundw
      case rel => exact Or.inr (Or.inr (Or.inl ⟨rfl, trivial⟩))
      case measure => simp only [intOf]; omega
    · have hc : Calls Tryd.prog 18 #[.int .i64 2, .int .i64 2] (w.alloc (.cells #[.complex .f64 x0 y0, .complex .f64 x2 y2, .complex .f64 0 0, .complex .f64 0 0] 36)) fun r w' => r = .returned (.int .i64 1) ∧ w' = w.alloc (.cells #[.complex .f64 x0 y0, .complex .f64 x2 y2, .complex .f64 0 0, .complex .f64 0 0] 36) := HT.out _ 2 (by omega)
      have HC := hide hc
      clear hc
      go_wp2_with (go_at_call 18; (with_reducible refine HC.out.mono ?_); rintro r w2 ⟨rfl, rfl⟩)
      go_roundw
      case rel => exact Or.inr (Or.inr (Or.inr (Or.inl ⟨rfl, trivial⟩)))
      case measure => simp only [intOf]; omega
    · have hc : Calls Tryd.prog 18 #[.int .i64 2, .int .i64 3] (w.alloc (.cells #[.complex .f64 x0 y0, .complex .f64 x2 y2, .complex .f64 x1 y1, .complex .f64 0 0] 36)) fun r w' => r = .returned (.int .i64 3) ∧ w' = w.alloc (.cells #[.complex .f64 x0 y0, .complex .f64 x2 y2, .complex .f64 x1 y1, .complex .f64 0 0] 36) := HT.out _ 3 (by omega)
      have HC := hide hc
      clear hc
      go_wp2_with (go_at_call 18; (with_reducible refine HC.out.mono ?_); rintro r w2 ⟨rfl, rfl⟩)
      go_roundw
      case rel => exact Or.inr (Or.inr (Or.inr (Or.inr ⟨rfl, trivial⟩)))
      case measure => simp only [intOf]; omega
    · go_wp2
      go_ret2
      exact ⟨rfl, rfl⟩
end Go.Proofs.YtbhaebemaggjfaaDoor
