import Derived.Test.YtlhpkflknfmjcaaGreatDoorM09
import Derived.Test.YtlhpkflknfmjcaaGreatDoorM10
namespace Go.Proofs.YtlhpkflknfmjcaaGreatDoor.Apt
open Go.RowKit
set_option linter.unusedVariables false


set_option maxRecDepth 20000 in
set_option maxHeartbeats 4000000 in
theorem flat30 (w : World) : Calls Tryz.prog 69 #[.slice none 0 0] w fun r w' => r = .returned (.bool true) ∧ Gr w w' := by
  have hmk : ∀ w, (Instr.makeSlice 60 (.int .i64 0) (.int .i64 0)).run Tryz.prog w = .ok (.slice (some ⟨w.heap.size, 0, none⟩) 0 0) (w.alloc (.cells #[] 46)) := fun _ => by kernel_rfl
  have G := hide ((Gr.refl w).alloc (.cells #[] 46))
  go_enter Tryz.func69, Tryz.ntmps69
  go_wp2
  go_loopw [3] (fun i wr => i = .int .i64 0 ∧ w = wr) (fun _ _ => 0)
  case atStart => exact ⟨rfl, rfl⟩
  case round =>
    obtain ⟨rfl, rfl⟩ := hrel
    go_wp2
    go_loopw [6] (fun i wr => i = .int .i64 0 ∧ w.alloc (.cells #[] 46) = wr) (fun _ _ => 0)
    case atStart => exact ⟨rfl, rfl⟩
    case round =>
      obtain ⟨rfl, rfl⟩ := hrel
      go_wp2
      go_loopw [9] (fun i wr => i = .int .i64 0 ∧ w.alloc (.cells #[] 46) = wr) (fun _ _ => 0)
      case atStart => exact ⟨rfl, rfl⟩
      case round =>
        obtain ⟨rfl, rfl⟩ := hrel
        go_wp2
        go_loopw [11] (fun i wr => i = .int .i64 0 ∧ w.alloc (.cells #[] 46) = wr) (fun _ _ => 0)
        case atStart => exact ⟨rfl, rfl⟩
        case round =>
          obtain ⟨rfl, rfl⟩ := hrel
          go_wp2
          go_loopw [14] (fun i wr => i = .int .i64 0 ∧ w.alloc (.cells #[] 46) = wr) (fun _ _ => 0)
          case atStart => exact ⟨rfl, rfl⟩
          case round =>
            obtain ⟨rfl, rfl⟩ := hrel
            go_wp2
            go_ret
            exact ⟨rfl, G.out⟩
set_option maxRecDepth 20000 in
set_option maxHeartbeats 4000000 in
theorem flat31 (w : World) : Calls Tryz.prog 70 #[.slice none 0 0] w fun r w' => r = .returned (.bool true) ∧ Gr w w' := by
  have hmk : ∀ w, (Instr.makeSlice 61 (.int .i64 0) (.int .i64 0)).run Tryz.prog w = .ok (.slice (some ⟨w.heap.size, 0, none⟩) 0 0) (w.alloc (.cells #[] 129)) := fun _ => by kernel_rfl
  have G := hide ((Gr.refl w).alloc (.cells #[] 129))
  go_enter Tryz.func70, Tryz.ntmps70
  go_wp2
  go_loopw [3] (fun i wr => i = .int .i64 0 ∧ w = wr) (fun _ _ => 0)
  case atStart => exact ⟨rfl, rfl⟩
  case round =>
    obtain ⟨rfl, rfl⟩ := hrel
    go_wp2
    go_loopw [6] (fun i wr => i = .int .i64 0 ∧ w.alloc (.cells #[] 129) = wr) (fun _ _ => 0)
    case atStart => exact ⟨rfl, rfl⟩
    case round =>
      obtain ⟨rfl, rfl⟩ := hrel
      go_wp2
      go_loopw [9] (fun i wr => i = .int .i64 0 ∧ w.alloc (.cells #[] 129) = wr) (fun _ _ => 0)
      case atStart => exact ⟨rfl, rfl⟩
      case round =>
        obtain ⟨rfl, rfl⟩ := hrel
        go_wp2
        go_loopw [11] (fun i wr => i = .int .i64 0 ∧ w.alloc (.cells #[] 129) = wr) (fun _ _ => 0)
        case atStart => exact ⟨rfl, rfl⟩
        case round =>
          obtain ⟨rfl, rfl⟩ := hrel
          go_wp2
          go_loopw [14] (fun i wr => i = .int .i64 0 ∧ w.alloc (.cells #[] 129) = wr) (fun _ _ => 0)
          case atStart => exact ⟨rfl, rfl⟩
          case round =>
            obtain ⟨rfl, rfl⟩ := hrel
            go_wp2
            go_ret
            exact ⟨rfl, G.out⟩
set_option maxRecDepth 20000 in
set_option maxHeartbeats 4000000 in
theorem flat32 (w : World) : Calls Tryz.prog 71 #[.slice none 0 0] w fun r w' => r = .returned (.bool true) ∧ Gr w w' := by
  have hmk : ∀ w, (Instr.makeSlice 62 (.int .i64 0) (.int .i64 0)).run Tryz.prog w = .ok (.slice (some ⟨w.heap.size, 0, none⟩) 0 0) (w.alloc (.cells #[] 130)) := fun _ => by kernel_rfl
  have G := hide ((Gr.refl w).alloc (.cells #[] 130))
  go_enter Tryz.func71, Tryz.ntmps71
  go_wp2
  go_loopw [3] (fun i wr => i = .int .i64 0 ∧ w = wr) (fun _ _ => 0)
  case atStart => exact ⟨rfl, rfl⟩
  case round =>
    obtain ⟨rfl, rfl⟩ := hrel
    go_wp2
    go_loopw [6] (fun i wr => i = .int .i64 0 ∧ w.alloc (.cells #[] 130) = wr) (fun _ _ => 0)
    case atStart => exact ⟨rfl, rfl⟩
    case round =>
      obtain ⟨rfl, rfl⟩ := hrel
      go_wp2
      go_loopw [9] (fun i wr => i = .int .i64 0 ∧ w.alloc (.cells #[] 130) = wr) (fun _ _ => 0)
      case atStart => exact ⟨rfl, rfl⟩
      case round =>
        obtain ⟨rfl, rfl⟩ := hrel
        go_wp2
        go_loopw [11] (fun i wr => i = .int .i64 0 ∧ w.alloc (.cells #[] 130) = wr) (fun _ _ => 0)
        case atStart => exact ⟨rfl, rfl⟩
        case round =>
          obtain ⟨rfl, rfl⟩ := hrel
          go_wp2
          go_loopw [14] (fun i wr => i = .int .i64 0 ∧ w.alloc (.cells #[] 130) = wr) (fun _ _ => 0)
          case atStart => exact ⟨rfl, rfl⟩
          case round =>
            obtain ⟨rfl, rfl⟩ := hrel
            go_wp2
            go_ret
            exact ⟨rfl, G.out⟩
set_option maxRecDepth 20000 in
set_option maxHeartbeats 4000000 in
theorem flat33 (w : World) : Calls Tryz.prog 72 #[.slice none 0 0] w fun r w' => r = .returned (.bool true) ∧ Gr w w' := by
  have hmk : ∀ w, (Instr.makeSlice 63 (.int .i64 0) (.int .i64 0)).run Tryz.prog w = .ok (.slice (some ⟨w.heap.size, 0, none⟩) 0 0) (w.alloc (.cells #[] 131)) := fun _ => by kernel_rfl
  have G := hide ((Gr.refl w).alloc (.cells #[] 131))
  go_enter Tryz.func72, Tryz.ntmps72
  go_wp2
  go_loopw [3] (fun i wr => i = .int .i64 0 ∧ w = wr) (fun _ _ => 0)
  case atStart => exact ⟨rfl, rfl⟩
  case round =>
    obtain ⟨rfl, rfl⟩ := hrel
    go_wp2
    go_loopw [6] (fun i wr => i = .int .i64 0 ∧ w.alloc (.cells #[] 131) = wr) (fun _ _ => 0)
    case atStart => exact ⟨rfl, rfl⟩
    case round =>
      obtain ⟨rfl, rfl⟩ := hrel
      go_wp2
      go_loopw [9] (fun i wr => i = .int .i64 0 ∧ w.alloc (.cells #[] 131) = wr) (fun _ _ => 0)
      case atStart => exact ⟨rfl, rfl⟩
      case round =>
        obtain ⟨rfl, rfl⟩ := hrel
        go_wp2
        go_loopw [11] (fun i wr => i = .int .i64 0 ∧ w.alloc (.cells #[] 131) = wr) (fun _ _ => 0)
        case atStart => exact ⟨rfl, rfl⟩
        case round =>
          obtain ⟨rfl, rfl⟩ := hrel
          go_wp2
          go_loopw [14] (fun i wr => i = .int .i64 0 ∧ w.alloc (.cells #[] 131) = wr) (fun _ _ => 0)
          case atStart => exact ⟨rfl, rfl⟩
          case round =>
            obtain ⟨rfl, rfl⟩ := hrel
            go_wp2
            go_ret
            exact ⟨rfl, G.out⟩
set_option maxRecDepth 20000 in
set_option maxHeartbeats 4000000 in
theorem flat34 (w : World) : Calls Tryz.prog 73 #[.slice none 0 0] w fun r w' => r = .returned (.bool true) ∧ Gr w w' := by
  have hmk : ∀ w, (Instr.makeSlice 64 (.int .i64 0) (.int .i64 0)).run Tryz.prog w = .ok (.slice (some ⟨w.heap.size, 0, none⟩) 0 0) (w.alloc (.cells #[] 133)) := fun _ => by kernel_rfl
  have G := hide ((Gr.refl w).alloc (.cells #[] 133))
  go_enter Tryz.func73, Tryz.ntmps73
  go_wp2
  go_loopw [3] (fun i wr => i = .int .i64 0 ∧ w = wr) (fun _ _ => 0)
  case atStart => exact ⟨rfl, rfl⟩
  case round =>
    obtain ⟨rfl, rfl⟩ := hrel
    go_wp2
    go_loopw [6] (fun i wr => i = .int .i64 0 ∧ w.alloc (.cells #[] 133) = wr) (fun _ _ => 0)
    case atStart => exact ⟨rfl, rfl⟩
    case round =>
      obtain ⟨rfl, rfl⟩ := hrel
      go_wp2
      go_loopw [9] (fun i wr => i = .int .i64 0 ∧ w.alloc (.cells #[] 133) = wr) (fun _ _ => 0)
      case atStart => exact ⟨rfl, rfl⟩
      case round =>
        obtain ⟨rfl, rfl⟩ := hrel
        go_wp2
        go_loopw [11] (fun i wr => i = .int .i64 0 ∧ w.alloc (.cells #[] 133) = wr) (fun _ _ => 0)
        case atStart => exact ⟨rfl, rfl⟩
        case round =>
          obtain ⟨rfl, rfl⟩ := hrel
          go_wp2
          go_loopw [14] (fun i wr => i = .int .i64 0 ∧ w.alloc (.cells #[] 133) = wr) (fun _ _ => 0)
          case atStart => exact ⟨rfl, rfl⟩
          case round =>
            obtain ⟨rfl, rfl⟩ := hrel
            go_wp2
            go_ret
            exact ⟨rfl, G.out⟩
set_option maxRecDepth 20000 in
set_option maxHeartbeats 4000000 in
theorem flat35 (w : World) : Calls Tryz.prog 74 #[.slice none 0 0] w fun r w' => r = .returned (.bool true) ∧ Gr w w' := by
  have hmk : ∀ w, (Instr.makeSlice 65 (.int .i64 0) (.int .i64 0)).run Tryz.prog w = .ok (.slice (some ⟨w.heap.size, 0, none⟩) 0 0) (w.alloc (.cells #[] 33)) := fun _ => by kernel_rfl
  have G := hide ((Gr.refl w).alloc (.cells #[] 33))
  go_enter Tryz.func74, Tryz.ntmps74
  go_wp2
  go_loopw [3] (fun i wr => i = .int .i64 0 ∧ w = wr) (fun _ _ => 0)
  case atStart => exact ⟨rfl, rfl⟩
  case round =>
    obtain ⟨rfl, rfl⟩ := hrel
    go_wp2
    go_loopw [6] (fun i wr => i = .int .i64 0 ∧ w.alloc (.cells #[] 33) = wr) (fun _ _ => 0)
    case atStart => exact ⟨rfl, rfl⟩
    case round =>
      obtain ⟨rfl, rfl⟩ := hrel
      go_wp2
      go_loopw [9] (fun i wr => i = .int .i64 0 ∧ w.alloc (.cells #[] 33) = wr) (fun _ _ => 0)
      case atStart => exact ⟨rfl, rfl⟩
      case round =>
        obtain ⟨rfl, rfl⟩ := hrel
        go_wp2
        go_loopw [11] (fun i wr => i = .int .i64 0 ∧ w.alloc (.cells #[] 33) = wr) (fun _ _ => 0)
        case atStart => exact ⟨rfl, rfl⟩
        case round =>
          obtain ⟨rfl, rfl⟩ := hrel
          go_wp2
          go_loopw [14] (fun i wr => i = .int .i64 0 ∧ w.alloc (.cells #[] 33) = wr) (fun _ _ => 0)
          case atStart => exact ⟨rfl, rfl⟩
          case round =>
            obtain ⟨rfl, rfl⟩ := hrel
            go_wp2
            go_ret
            exact ⟨rfl, G.out⟩
set_option maxRecDepth 20000 in
set_option maxHeartbeats 4000000 in
theorem flat37 (w : World) : Calls Tryz.prog 76 #[.slice none 0 0] w fun r w' => r = .returned (.bool true) ∧ Gr w w' := by
  have hmk : ∀ w, (Instr.makeSlice 66 (.int .i64 0) (.int .i64 0)).run Tryz.prog w = .ok (.slice (some ⟨w.heap.size, 0, none⟩) 0 0) (w.alloc (.cells #[] 135)) := fun _ => by kernel_rfl
  have G := hide ((Gr.refl w).alloc (.cells #[] 135))
  go_enter Tryz.func76, Tryz.ntmps76
  go_wp2
  go_loopw [3] (fun i wr => i = .int .i64 0 ∧ w = wr) (fun _ _ => 0)
  case atStart => exact ⟨rfl, rfl⟩
  case round =>
    obtain ⟨rfl, rfl⟩ := hrel
    go_wp2
    go_loopw [6] (fun i wr => i = .int .i64 0 ∧ w.alloc (.cells #[] 135) = wr) (fun _ _ => 0)
    case atStart => exact ⟨rfl, rfl⟩
    case round =>
      obtain ⟨rfl, rfl⟩ := hrel
      go_wp2
      go_loopw [9] (fun i wr => i = .int .i64 0 ∧ w.alloc (.cells #[] 135) = wr) (fun _ _ => 0)
      case atStart => exact ⟨rfl, rfl⟩
      case round =>
        obtain ⟨rfl, rfl⟩ := hrel
        go_wp2
        go_loopw [11] (fun i wr => i = .int .i64 0 ∧ w.alloc (.cells #[] 135) = wr) (fun _ _ => 0)
        case atStart => exact ⟨rfl, rfl⟩
        case round =>
          obtain ⟨rfl, rfl⟩ := hrel
          go_wp2
          go_loopw [14] (fun i wr => i = .int .i64 0 ∧ w.alloc (.cells #[] 135) = wr) (fun _ _ => 0)
          case atStart => exact ⟨rfl, rfl⟩
          case round =>
            obtain ⟨rfl, rfl⟩ := hrel
            go_wp2
            go_ret
            exact ⟨rfl, G.out⟩
set_option maxRecDepth 20000 in
set_option maxHeartbeats 4000000 in
theorem flat38 (w : World) : Calls Tryz.prog 77 #[.slice none 0 0] w fun r w' => r = .returned (.bool true) ∧ Gr w w' := by
  have hmk : ∀ w, (Instr.makeSlice 67 (.int .i64 0) (.int .i64 0)).run Tryz.prog w = .ok (.slice (some ⟨w.heap.size, 0, none⟩) 0 0) (w.alloc (.cells #[] 140)) := fun _ => by kernel_rfl
  have G := hide ((Gr.refl w).alloc (.cells #[] 140))
  go_enter Tryz.func77, Tryz.ntmps77
  go_wp2
  go_loopw [3] (fun i wr => i = .int .i64 0 ∧ w = wr) (fun _ _ => 0)
  case atStart => exact ⟨rfl, rfl⟩
  case round =>
    obtain ⟨rfl, rfl⟩ := hrel
    go_wp2
    go_loopw [6] (fun i wr => i = .int .i64 0 ∧ w.alloc (.cells #[] 140) = wr) (fun _ _ => 0)
    case atStart => exact ⟨rfl, rfl⟩
    case round =>
      obtain ⟨rfl, rfl⟩ := hrel
      go_wp2
      go_loopw [9] (fun i wr => i = .int .i64 0 ∧ w.alloc (.cells #[] 140) = wr) (fun _ _ => 0)
      case atStart => exact ⟨rfl, rfl⟩
      case round =>
        obtain ⟨rfl, rfl⟩ := hrel
        go_wp2
        go_loopw [11] (fun i wr => i = .int .i64 0 ∧ w.alloc (.cells #[] 140) = wr) (fun _ _ => 0)
        case atStart => exact ⟨rfl, rfl⟩
        case round =>
          obtain ⟨rfl, rfl⟩ := hrel
          go_wp2
          go_loopw [14] (fun i wr => i = .int .i64 0 ∧ w.alloc (.cells #[] 140) = wr) (fun _ _ => 0)
          case atStart => exact ⟨rfl, rfl⟩
          case round =>
            obtain ⟨rfl, rfl⟩ := hrel
            go_wp2
            go_ret
            exact ⟨rfl, G.out⟩
set_option maxRecDepth 20000 in
set_option maxHeartbeats 4000000 in
theorem flat39 (w : World) : Calls Tryz.prog 78 #[.slice none 0 0] w fun r w' => r = .returned (.bool true) ∧ Gr w w' := by
  have hmk : ∀ w, (Instr.makeSlice 68 (.int .i64 0) (.int .i64 0)).run Tryz.prog w = .ok (.slice (some ⟨w.heap.size, 0, none⟩) 0 0) (w.alloc (.cells #[] 143)) := fun _ => by kernel_rfl
  have G := hide ((Gr.refl w).alloc (.cells #[] 143))
  go_enter Tryz.func78, Tryz.ntmps78
  go_wp2
  go_loopw [3] (fun i wr => i = .int .i64 0 ∧ w = wr) (fun _ _ => 0)
  case atStart => exact ⟨rfl, rfl⟩
  case round =>
    obtain ⟨rfl, rfl⟩ := hrel
    go_wp2
    go_loopw [6] (fun i wr => i = .int .i64 0 ∧ w.alloc (.cells #[] 143) = wr) (fun _ _ => 0)
    case atStart => exact ⟨rfl, rfl⟩
    case round =>
      obtain ⟨rfl, rfl⟩ := hrel
      go_wp2
      go_loopw [9] (fun i wr => i = .int .i64 0 ∧ w.alloc (.cells #[] 143) = wr) (fun _ _ => 0)
      case atStart => exact ⟨rfl, rfl⟩
      case round =>
        obtain ⟨rfl, rfl⟩ := hrel
        go_wp2
        go_loopw [11] (fun i wr => i = .int .i64 0 ∧ w.alloc (.cells #[] 143) = wr) (fun _ _ => 0)
        case atStart => exact ⟨rfl, rfl⟩
        case round =>
          obtain ⟨rfl, rfl⟩ := hrel
          go_wp2
          go_loopw [14] (fun i wr => i = .int .i64 0 ∧ w.alloc (.cells #[] 143) = wr) (fun _ _ => 0)
          case atStart => exact ⟨rfl, rfl⟩
          case round =>
            obtain ⟨rfl, rfl⟩ := hrel
            go_wp2
            go_ret
            exact ⟨rfl, G.out⟩
set_option maxRecDepth 20000 in
set_option maxHeartbeats 4000000 in
theorem flat40 (w : World) : Calls Tryz.prog 79 #[.slice none 0 0] w fun r w' => r = .returned (.bool true) ∧ Gr w w' := by
  have hmk : ∀ w, (Instr.makeSlice 69 (.int .i64 0) (.int .i64 0)).run Tryz.prog w = .ok (.slice (some ⟨w.heap.size, 0, none⟩) 0 0) (w.alloc (.cells #[] 146)) := fun _ => by kernel_rfl
  have G := hide ((Gr.refl w).alloc (.cells #[] 146))
  go_enter Tryz.func79, Tryz.ntmps79
  go_wp2
  go_loopw [3] (fun i wr => i = .int .i64 0 ∧ w = wr) (fun _ _ => 0)
  case atStart => exact ⟨rfl, rfl⟩
  case round =>
    obtain ⟨rfl, rfl⟩ := hrel
    go_wp2
    go_loopw [6] (fun i wr => i = .int .i64 0 ∧ w.alloc (.cells #[] 146) = wr) (fun _ _ => 0)
    case atStart => exact ⟨rfl, rfl⟩
    case round =>
      obtain ⟨rfl, rfl⟩ := hrel
      go_wp2
      go_loopw [9] (fun i wr => i = .int .i64 0 ∧ w.alloc (.cells #[] 146) = wr) (fun _ _ => 0)
      case atStart => exact ⟨rfl, rfl⟩
      case round =>
        obtain ⟨rfl, rfl⟩ := hrel
        go_wp2
        go_loopw [11] (fun i wr => i = .int .i64 0 ∧ w.alloc (.cells #[] 146) = wr) (fun _ _ => 0)
        case atStart => exact ⟨rfl, rfl⟩
        case round =>
          obtain ⟨rfl, rfl⟩ := hrel
          go_wp2
          go_loopw [14] (fun i wr => i = .int .i64 0 ∧ w.alloc (.cells #[] 146) = wr) (fun _ _ => 0)
          case atStart => exact ⟨rfl, rfl⟩
          case round =>
            obtain ⟨rfl, rfl⟩ := hrel
            go_wp2
            go_ret
            exact ⟨rfl, G.out⟩
set_option maxRecDepth 20000 in
set_option maxHeartbeats 4000000 in
theorem flat41 (w : World) : Calls Tryz.prog 80 #[.slice none 0 0] w fun r w' => r = .returned (.bool true) ∧ Gr w w' := by
  have hmk : ∀ w, (Instr.makeSlice 70 (.int .i64 0) (.int .i64 0)).run Tryz.prog w = .ok (.slice (some ⟨w.heap.size, 0, none⟩) 0 0) (w.alloc (.cells #[] 149)) := fun _ => by kernel_rfl
  have G := hide ((Gr.refl w).alloc (.cells #[] 149))
  go_enter Tryz.func80, Tryz.ntmps80
  go_wp2
  go_loopw [3] (fun i wr => i = .int .i64 0 ∧ w = wr) (fun _ _ => 0)
  case atStart => exact ⟨rfl, rfl⟩
  case round =>
    obtain ⟨rfl, rfl⟩ := hrel
    go_wp2
    go_loopw [6] (fun i wr => i = .int .i64 0 ∧ w.alloc (.cells #[] 149) = wr) (fun _ _ => 0)
    case atStart => exact ⟨rfl, rfl⟩
    case round =>
      obtain ⟨rfl, rfl⟩ := hrel
      go_wp2
      go_loopw [9] (fun i wr => i = .int .i64 0 ∧ w.alloc (.cells #[] 149) = wr) (fun _ _ => 0)
      case atStart => exact ⟨rfl, rfl⟩
      case round =>
        obtain ⟨rfl, rfl⟩ := hrel
        go_wp2
        go_loopw [11] (fun i wr => i = .int .i64 0 ∧ w.alloc (.cells #[] 149) = wr) (fun _ _ => 0)
        case atStart => exact ⟨rfl, rfl⟩
        case round =>
          obtain ⟨rfl, rfl⟩ := hrel
          go_wp2
          go_loopw [14] (fun i wr => i = .int .i64 0 ∧ w.alloc (.cells #[] 149) = wr) (fun _ _ => 0)
          case atStart => exact ⟨rfl, rfl⟩
          case round =>
            obtain ⟨rfl, rfl⟩ := hrel
            go_wp2
            go_ret
            exact ⟨rfl, G.out⟩
set_option maxRecDepth 20000 in
set_option maxHeartbeats 4000000 in
theorem flat42 (w : World) : Calls Tryz.prog 81 #[.slice none 0 0] w fun r w' => r = .returned (.bool true) ∧ Gr w w' := by
  have hmk : ∀ w, (Instr.makeSlice 71 (.int .i64 0) (.int .i64 0)).run Tryz.prog w = .ok (.slice (some ⟨w.heap.size, 0, none⟩) 0 0) (w.alloc (.cells #[] 154)) := fun _ => by kernel_rfl
  have G := hide ((Gr.refl w).alloc (.cells #[] 154))
  go_enter Tryz.func81, Tryz.ntmps81
  go_wp2
  go_loopw [3] (fun i wr => i = .int .i64 0 ∧ w = wr) (fun _ _ => 0)
  case atStart => exact ⟨rfl, rfl⟩
  case round =>
    obtain ⟨rfl, rfl⟩ := hrel
    go_wp2
    go_loopw [6] (fun i wr => i = .int .i64 0 ∧ w.alloc (.cells #[] 154) = wr) (fun _ _ => 0)
    case atStart => exact ⟨rfl, rfl⟩
    case round =>
      obtain ⟨rfl, rfl⟩ := hrel
      go_wp2
      go_loopw [9] (fun i wr => i = .int .i64 0 ∧ w.alloc (.cells #[] 154) = wr) (fun _ _ => 0)
      case atStart => exact ⟨rfl, rfl⟩
      case round =>
        obtain ⟨rfl, rfl⟩ := hrel
        go_wp2
        go_loopw [11] (fun i wr => i = .int .i64 0 ∧ w.alloc (.cells #[] 154) = wr) (fun _ _ => 0)
        case atStart => exact ⟨rfl, rfl⟩
        case round =>
          obtain ⟨rfl, rfl⟩ := hrel
          go_wp2
          go_loopw [14] (fun i wr => i = .int .i64 0 ∧ w.alloc (.cells #[] 154) = wr) (fun _ _ => 0)
          case atStart => exact ⟨rfl, rfl⟩
          case round =>
            obtain ⟨rfl, rfl⟩ := hrel
            go_wp2
            go_ret
            exact ⟨rfl, G.out⟩
set_option maxRecDepth 20000 in
set_option maxHeartbeats 4000000 in
theorem flat43 (w : World) : Calls Tryz.prog 82 #[.slice none 0 0] w fun r w' => r = .returned (.bool true) ∧ Gr w w' := by
  have hmk : ∀ w, (Instr.makeSlice 72 (.int .i64 0) (.int .i64 0)).run Tryz.prog w = .ok (.slice (some ⟨w.heap.size, 0, none⟩) 0 0) (w.alloc (.cells #[] 159)) := fun _ => by kernel_rfl
  have G := hide ((Gr.refl w).alloc (.cells #[] 159))
  go_enter Tryz.func82, Tryz.ntmps82
  go_wp2
  go_loopw [3] (fun i wr => i = .int .i64 0 ∧ w = wr) (fun _ _ => 0)
  case atStart => exact ⟨rfl, rfl⟩
  case round =>
    obtain ⟨rfl, rfl⟩ := hrel
    go_wp2
    go_loopw [6] (fun i wr => i = .int .i64 0 ∧ w.alloc (.cells #[] 159) = wr) (fun _ _ => 0)
    case atStart => exact ⟨rfl, rfl⟩
    case round =>
      obtain ⟨rfl, rfl⟩ := hrel
      go_wp2
      go_loopw [9] (fun i wr => i = .int .i64 0 ∧ w.alloc (.cells #[] 159) = wr) (fun _ _ => 0)
      case atStart => exact ⟨rfl, rfl⟩
      case round =>
        obtain ⟨rfl, rfl⟩ := hrel
        go_wp2
        go_loopw [11] (fun i wr => i = .int .i64 0 ∧ w.alloc (.cells #[] 159) = wr) (fun _ _ => 0)
        case atStart => exact ⟨rfl, rfl⟩
        case round =>
          obtain ⟨rfl, rfl⟩ := hrel
          go_wp2
          go_loopw [14] (fun i wr => i = .int .i64 0 ∧ w.alloc (.cells #[] 159) = wr) (fun _ _ => 0)
          case atStart => exact ⟨rfl, rfl⟩
          case round =>
            obtain ⟨rfl, rfl⟩ := hrel
            go_wp2
            go_ret
            exact ⟨rfl, G.out⟩
end Go.Proofs.YtlhpkflknfmjcaaGreatDoor.Apt
namespace Go.Proofs.YtlhpkflknfmjcaaGreatDoor.Apt
open Go.RowKit
set_option linter.unusedVariables false


theorem infoSb : (Tryz.prog.info? 24).map (fun i => (i.zero, i.size, i.bytes)) = some (some (.slice none 0 0), 1, 24) := by kernel_rfl
/-- a bag that holds rows alone -/
def bagC (v : Value) : Array Value := #[.slice none 0 0, .slice none 0 0, .slice none 0 0, .slice none 0 0, .slice none 0 0, .slice none 0 0, v, .slice none 0 0, .slice none 0 0, .slice none 0 0, .slice none 0 0, .slice none 0 0, .slice none 0 0, .slice none 0 0]
set_option maxRecDepth 20000 in
set_option maxHeartbeats 4000000 in
theorem put28 (bb base n : Nat) (vad : Option Addr) (vc : Nat) (cs : List Value) (ad : Option Addr) (l c : Nat) (w : World) (hn : n ≤ 1000) (hB : w.heap[bb]? = some (.cells (bagC (.slice vad n vc)) 74)) (ho : w.ownsRow base 24 1 (.slice vad n vc) n cs) (hb : base ≤ bb) (hbs : base ≤ w.heap.size) :
    Calls Tryz.prog 32 #[.pointer (some ⟨bb, 0, none⟩), .slice ad l c] w fun r w' => r = .returned (.tuple #[]) ∧ ∃ vad' vc', w'.heap[bb]? = some (.cells (bagC (.slice vad' (n + 1) vc')) 74) ∧ w'.ownsRow base 24 1 (.slice vad' (n + 1) vc') (n + 1) (cs ++ [.slice ad l c]) ∧ ∀ a0, Gr a0 w → a0.heap.size ≤ base → Gr a0 w' := by
  have c6 : w.cell? ⟨bb, 6, none⟩ = some (.slice vad n vc) := by simp only [World.cell?, hB]; rfl
  have hblt := lt_of_get hB
  have hne : (Value.slice vad n vc).ownBlock ≠ some bb := fun e => by
    rcases ho.2 with ⟨e1, _⟩ | ⟨g, cap, cur, e1, _, hg, _⟩
    · rw [e1] at e; cases e
    · rw [e1] at e
      injection e with e
      subst e
      rw [hB] at hg
      injection hg with hg
      injection hg with _ h2
      cases h2
  obtain ⟨i0, hi, hz0, hz1, hz2⟩ := info_parts infoSb
  have HO := hide ho
  have HB := hide hB
  clear ho hB
  go_enter Tryz.func32, Tryz.ntmps32
  go_wp2_with (at_builtin; refine wpList_append_own _ rfl _ _ 31 rfl base 24 i0 (.slice none 0 0) 1 24 Tryz.underlying31 hi hz0 hz1 hz2 rfl (by decide) (.slice vad n vc) n cs rfl (HO.out.alloc _) ⟨w.heap.size, 0, none⟩ 1 1 [.slice ad l c] rfl rfl ?p1 ?p2 ?p3 ?p4 ?p5 ?_)
  case' p1 =>
    intro j u hj
    match j, hj with
    | 0, hj => simp at hj; subst hj; simp [Addr.add]
  case' p2 => intro u hu; rw [List.mem_singleton.1 hu]; rfl
  case' p3 => unfold maxLen; omega
  case' p4 => omega
  case' p5 => simp; omega
  intro v' w2 hown' hgr' _
  have HB2 : w2.heap[bb]? = some (.cells (bagC (.slice vad n vc)) 74) := by
    rw [hgr'.block bb (by simp; omega) (fun e => hne e.symm)]
    exact ((Gr.refl w).alloc _).block bb hblt |>.trans HB.out
  have GW : Hid (∀ a0, Gr a0 w → a0.heap.size ≤ base → Gr a0 w2) := fun a0 h0 hl => (h0.alloc (.cells #[.slice ad l c] 24)).grown hgr' (fun k hk => Nat.le_trans hl (HO.out.lt k hk).1)
  obtain ⟨vad', vc', rfl⟩ : ∃ vad' vc', v' = .slice vad' (n + 1) vc' := by
    rcases hown'.2 with ⟨_, h0⟩ | ⟨g, cap, cur, e1, _⟩
    · omega
    · exact ⟨_, _, e1⟩
  have hne2 : (Value.slice vad' (n + 1) vc').ownBlock ≠ some bb := fun e => by
    rcases hown'.2 with ⟨_, h0⟩ | ⟨g, cap, cur, e1, _, hg, _⟩
    · omega
    · rw [e1] at e
      injection e with e
      subst e
      rw [HB2] at hg
      injection hg with hg
      injection hg with _ h2
      cases h2
  have d6 : w2.cell? ⟨bb, 6, none⟩ = some (.slice vad n vc) := by simp only [World.cell?, HB2]; rfl
  have f6 : w2.frozen? ⟨bb, 6, none⟩ = false := by simp only [World.frozen?, HB2]; rfl
  have hsts : ∀ (a : Addr) (ad : Option Addr) (n c : Nat) (w : World), (store a (.slice ad n c)).run Tryz.prog w = stored Tryz.prog w a (.slice ad n c) .plain := fun a ad n c w => run_store _ _ _ _ _ rfl
  have OW2 := hide hown'
  have HB3 := hide HB2
  clear hown' hgr' HB2 c6
  go_wp2
  refine bodyPost_end (v := .tuple #[]) (by simp [results, Tryz.results32, go_sem]) rfl ⟨rfl, vad', vc', ?_, ?_, fun a0 h0 hl => (GW.out a0 h0 hl).setCell (p := ⟨bb, 6, none⟩) (Nat.le_trans hl hb) _⟩
  · simp only [World.setCell, Array.getElem?_modify, if_true, HB3.out, Option.map_some]
    rfl
  · exact (Gx.setCell (Gx.refl bb w2) 6 _).owns OW2.out fun k hk e => hne2 (by rw [hk, e])
end Go.Proofs.YtlhpkflknfmjcaaGreatDoor.Apt
namespace Go.Proofs.YtlhpkflknfmjcaaGreatDoor.Apt
open Go.RowKit
set_option linter.unusedVariables false


theorem GA.pre {m : Nat} {V : Nat → Value} {base : Nat} {w w1 w2 : World} (g : Gr w w1) (h : GA m V base w1 w2) : GA m V base w w2 := ⟨fun a0 h0 hb => h.1 a0 (h0.trans g) hb, Nat.le_trans g.size h.2.1, fun c hc hp => (h.2.2 c (Nat.lt_of_lt_of_le hc g.size) hp).trans (g.block c hc)⟩
theorem Gr.keepH {w w' : World} (g : Gr w w') {k : Nat} {o : Obj} (h : w.heap[k]? = some o) : w'.heap[k]? = some o := (g.block k (lt_of_get h)).trans h
set_option maxRecDepth 20000 in
set_option maxHeartbeats 4000000 in
theorem apart29 (bb m capl base bl : Nat) (V : Nat → Value) (nn : Nat → Nat) (zss : Nat → List (Nat × Nat)) (w : World) (m0 : 0 < m) (m1 : m < 5) (l1 : m ≤ capl) (l2 : capl ≤ 9223372036854775807) (A : Ap m V nn base bl) (sm : ∀ k, k < m → nn k ≤ 64) (b0 : base ≤ w.heap.size) (H : Hd m V nn base bl zss w)
    (hB : w.heap[bb]? = some (.cells (bagC (.slice (some ⟨bl, 0, none⟩) m capl)) 74)) (off : ∀ j, j < m → (V j).ownBlock ≠ some bb) :
    Calls Tryz.prog 33 #[.pointer (some ⟨bb, 0, none⟩)] w fun r w' => r = .returned (.bool true) ∧ GA m V base w w' := by
  have c0 : w.cell? ⟨bb, 0, none⟩ = some (.slice none 0 0) := by simp only [World.cell?, hB]; rfl
  have HB := hide hB
  have G := hide (Gr.refl w)
  have OFF := hide off
  have F36 : Hid (∀ w1, Gr w w1 → Calls Tryz.prog 75 #[.slice (some ⟨bl, 0, none⟩) m capl] w1 fun r w' => r = .returned (.bool true) ∧ GA m V base w1 w') := fun w1 g => flat36 m capl base bl V nn zss w1 m0 m1 l1 l2 A sm (Nat.le_trans b0 g.size) (H.gr g)
  clear hB off A H sm
  go_enter Tryz.func33, Tryz.ntmps33
  go_wp2_with (first | (go_at_call 69; (with_reducible refine (flat30 _).mono ?_); rintro r w1 ⟨rfl, g⟩; have HB := hide (g.keepH HB.out); have G := hide (G.out.trans g); clear c0; have c1 : w1.cell? ⟨bb, 1, none⟩ = some (.slice none 0 0) := (by simp only [World.cell?, HB.out]; rfl)) | (go_at_call 70; (with_reducible refine (flat31 _).mono ?_); rintro r w2 ⟨rfl, g⟩; have HB := hide (g.keepH HB.out); have G := hide (G.out.trans g); clear c1; have c2 : w2.cell? ⟨bb, 2, none⟩ = some (.slice none 0 0) := (by simp only [World.cell?, HB.out]; rfl)) | (go_at_call 71; (with_reducible refine (flat32 _).mono ?_); rintro r w3 ⟨rfl, g⟩; have HB := hide (g.keepH HB.out); have G := hide (G.out.trans g); clear c2; have c3 : w3.cell? ⟨bb, 3, none⟩ = some (.slice none 0 0) := (by simp only [World.cell?, HB.out]; rfl)) | (go_at_call 72; (with_reducible refine (flat33 _).mono ?_); rintro r w4 ⟨rfl, g⟩; have HB := hide (g.keepH HB.out); have G := hide (G.out.trans g); clear c3; have c4 : w4.cell? ⟨bb, 4, none⟩ = some (.slice none 0 0) := (by simp only [World.cell?, HB.out]; rfl)) | (go_at_call 73; (with_reducible refine (flat34 _).mono ?_); rintro r w5 ⟨rfl, g⟩; have HB := hide (g.keepH HB.out); have G := hide (G.out.trans g); clear c4; have c5 : w5.cell? ⟨bb, 5, none⟩ = some (.slice none 0 0) := (by simp only [World.cell?, HB.out]; rfl)) | (go_at_call 74; (with_reducible refine (flat35 _).mono ?_); rintro r w6 ⟨rfl, g⟩; have HB := hide (g.keepH HB.out); have G := hide (G.out.trans g); clear c5; have c6 : w6.cell? ⟨bb, 6, none⟩ = some (.slice (some ⟨bl, 0, none⟩) m capl) := (by simp only [World.cell?, HB.out]; rfl)) | (go_at_call 75; (with_reducible refine (F36.out _ G.out).mono ?_); rintro r w7 ⟨rfl, g⟩; have HB := hide ((g.2.2 bb (lt_of_get HB.out) OFF.out).trans HB.out); have GX := hide (GA.pre G.out g); clear c6; have c7 : w7.cell? ⟨bb, 7, none⟩ = some (.slice none 0 0) := (by simp only [World.cell?, HB.out]; rfl)) | (go_at_call 76; (with_reducible refine (flat37 _).mono ?_); rintro r w8 ⟨rfl, g⟩; have HB := hide (g.keepH HB.out); have GX := hide (GX.out.gr g); clear c7; have c8 : w8.cell? ⟨bb, 8, none⟩ = some (.slice none 0 0) := (by simp only [World.cell?, HB.out]; rfl)) | (go_at_call 77; (with_reducible refine (flat38 _).mono ?_); rintro r w9 ⟨rfl, g⟩; have HB := hide (g.keepH HB.out); have GX := hide (GX.out.gr g); clear c8; have c9 : w9.cell? ⟨bb, 9, none⟩ = some (.slice none 0 0) := (by simp only [World.cell?, HB.out]; rfl)) | (go_at_call 78; (with_reducible refine (flat39 _).mono ?_); rintro r w10 ⟨rfl, g⟩; have HB := hide (g.keepH HB.out); have GX := hide (GX.out.gr g); clear c9; have c10 : w10.cell? ⟨bb, 10, none⟩ = some (.slice none 0 0) := (by simp only [World.cell?, HB.out]; rfl)) | (go_at_call 79; (with_reducible refine (flat40 _).mono ?_); rintro r w11 ⟨rfl, g⟩; have HB := hide (g.keepH HB.out); have GX := hide (GX.out.gr g); clear c10; have c11 : w11.cell? ⟨bb, 11, none⟩ = some (.slice none 0 0) := (by simp only [World.cell?, HB.out]; rfl)) | (go_at_call 80; (with_reducible refine (flat41 _).mono ?_); rintro r w12 ⟨rfl, g⟩; have HB := hide (g.keepH HB.out); have GX := hide (GX.out.gr g); clear c11; have c12 : w12.cell? ⟨bb, 12, none⟩ = some (.slice none 0 0) := (by simp only [World.cell?, HB.out]; rfl)) | (go_at_call 81; (with_reducible refine (flat42 _).mono ?_); rintro r w13 ⟨rfl, g⟩; have HB := hide (g.keepH HB.out); have GX := hide (GX.out.gr g); clear c12; have c13 : w13.cell? ⟨bb, 13, none⟩ = some (.slice none 0 0) := (by simp only [World.cell?, HB.out]; rfl)) | (go_at_call 82; (with_reducible refine (flat43 _).mono ?_); rintro r w14 ⟨rfl, g⟩; have HB := hide (g.keepH HB.out); have GX := hide (GX.out.gr g); clear c13))
  go_ret
  exact ⟨rfl, GX.out⟩
end Go.Proofs.YtlhpkflknfmjcaaGreatDoor.Apt
