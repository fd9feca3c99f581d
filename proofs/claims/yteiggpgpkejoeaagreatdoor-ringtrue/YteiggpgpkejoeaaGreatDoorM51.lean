import Derived.Test.YteiggpgpkejoeaaGreatDoorM09
import Derived.Test.YteiggpgpkejoeaaGreatDoorM50
import Derived.Test.YteiggpgpkejoeaaGreatDoorRows
import Derived.WalkKit
import Derived.ProofKit
import Derived.OpenShut
import Derived.LaidMore
import Derived.Stop.Joined
import Derived.Laws.Cover2
import Derived.ChangeSlices
import Derived.Carry
import Derived.Deep.Strs
namespace Go.Proofs.YteiggpgpkejoeaaGreatDoor
open Go.ChangeShapes Go.WideShapes Go.ChangeAt Go.RowKit
set_option linter.unusedVariables false

/-! THE FRAME OF THE STATEMENTS ON WHOLE NUMBERS: three tables are laid, rows of whole numbers are handed in -/
theorem own : ownKnob Tryz.prog.godebug = none := by kernel_rfl
theorem laidOut : laidOutB Tryz.prog = true := by kernel_rfl
theorem cellsI : Tryz.prog.cellsOf 3 = 1 := by kernel_rfl
theorem cellsB : Tryz.prog.cellsOf 5 = 1 := by kernel_rfl
theorem cellsL : Tryz.prog.cellsOf 2 = 1 := by kernel_rfl
theorem gTab : Tryz.prog.globalNamed "math/bits.deBruijn64tab" = some 2 := by kernel_rfl
theorem tTab : (Tryz.prog.globals[2]?).map (·.type) = some 111 := by kernel_rfl
theorem gFou : Tryz.prog.globalNamed "rosette/shuffle.fours" = some 3 := by kernel_rfl
theorem tFou : (Tryz.prog.globals[3]?).map (·.type) = some 127 := by kernel_rfl
theorem laid_list {H : Type} : (Rows.laid_math_bits_deBruijn64tab : DataW H) = .agg (Lib.deBruijn64tab.map fun (n : Nat) => .lit (.int .u8 (n : Int))) := rfl
theorem laid_fours {H : Type} : (Rows.laid_rosette_shuffle_fours : DataW H) = .agg (fours.map fun (n : Nat) => .lit (.int .i64 (n : Int))) := rfl
theorem tab_len : Lib.deBruijn64tab.length = 64 := rfl
theorem fou_len : fours.length = 16 := rfl
set_option maxRecDepth 100000 in
/-- what the listed variables give: the tables' cells -/
theorem tabs_of_laid {W : World} (h : laidMetH Tryz.prog [("math/bits.deBruijn32tab", Rows.laid_math_bits_deBruijn32tab), ("math/bits.deBruijn64tab", Rows.laid_math_bits_deBruijn64tab), ("rosette/shuffle.fours", Rows.laid_rosette_shuffle_fours)] W) : TabAt 2 Lib.deBruijn64tab W ∧ TabF W := by
  rw [MakeChecks.laidMetH_plain _ _ _ (by kernel_rfl)] at h
  obtain ⟨ps, ⟨g9, t9, cs9, f9, p9, q9, hg9, ht9, hv9, hd9, hrest9, _⟩, _, _⟩ := h
  obtain ⟨g0, t0, cs0, f0, p0, q0, hg0, ht0, hv0, hd0, hrest, _⟩ := hrest9
  obtain ⟨g1, t1, cs1, f1, p1, q1, hg1, ht1, hv1, hd1, _, _⟩ := hrest
  constructor
  · obtain rfl := Option.some.inj (gTab.symm.trans hg0)
    obtain rfl := Option.some.inj (tTab.symm.trans ht0)
    obtain ⟨xs, m1, rfl, hx1, hlen, hn3, hel⟩ := DataW.trod_array Tryz.underlying111 hd0
    rw [laid_list] at hx1
    have hx2 : Lib.deBruijn64tab.map (fun (n : Nat) => (.lit (.int .u8 (n : Int)) : DataW Unit)) = xs.map (·.1) := by
      injection hx1 with h1 h2
      injection h1
    intro j hj
    rw [tab_len] at hj
    have h0 := hel j hj
    rw [cellsB, Nat.mul_one] at h0
    have hxj : xs[j]? = some xs[j] := List.getElem?_eq_getElem (by omega)
    rw [hxj] at h0
    obtain ⟨n, e1, e2, _⟩ := DataW.trod_int Tryz.underlying5 h0
    have e3 : (xs.map (·.1))[j]? = some (.lit (.int .u8 n)) := by
      rw [List.getElem?_map, hxj, e2]; rfl
    rw [← hx2, List.getElem?_map, List.getElem?_eq_getElem (by rw [tab_len]; exact hj)] at e3
    simp only [Option.map_some] at e3
    injection e3 with e3
    injection e3 with e3
    injection e3 with _ e3
    rw [World.var?_cell hg0 hv0 j, List.getD_eq_getElem?_getD, List.getElem?_eq_getElem (by rw [tab_len]; exact hj)]
    simp only [Option.getD_some]
    have e5 : cs0.toList[j]? = some (.int .u8 n) := by
      have : (cs0.toList.drop j).take 1 = [.int .u8 n] := e1
      have h6 : ((cs0.toList.drop j).take 1)[0]? = some (.int .u8 n) := by rw [this]; rfl
      rw [List.getElem?_take_of_lt (by omega), List.getElem?_drop] at h6
      exact h6
    rw [Array.getElem?_toList] at e5
    rw [e5]
    exact congrArg (fun z => some (Value.int .u8 z)) e3.symm
  · obtain rfl := Option.some.inj (gFou.symm.trans hg1)
    obtain rfl := Option.some.inj (tFou.symm.trans ht1)
    obtain ⟨xs, m1, rfl, hx1, hlen, hn3, hel⟩ := DataW.trod_array Tryz.underlying127 hd1
    rw [laid_fours] at hx1
    have hx2 : fours.map (fun (n : Nat) => (.lit (.int .i64 (n : Int)) : DataW Unit)) = xs.map (·.1) := by
      injection hx1 with h1 h2
      injection h1
    intro j hj
    have h0 := hel j hj
    rw [cellsI, Nat.mul_one] at h0
    have hxj : xs[j]? = some xs[j] := List.getElem?_eq_getElem (by omega)
    rw [hxj] at h0
    obtain ⟨n, e1, e2, _⟩ := DataW.trod_int Tryz.underlying3 h0
    have e3 : (xs.map (·.1))[j]? = some (.lit (.int .i64 n)) := by
      rw [List.getElem?_map, hxj, e2]; rfl
    rw [← hx2, List.getElem?_map, List.getElem?_eq_getElem (by rw [fou_len]; exact hj)] at e3
    simp only [Option.map_some] at e3
    injection e3 with e3
    injection e3 with e3
    injection e3 with _ e3
    rw [World.var?_cell hg1 hv1 j, List.getD_eq_getElem?_getD, List.getElem?_eq_getElem (by rw [fou_len]; exact hj)]
    simp only [Option.getD_some]
    have e5 : cs1.toList[j]? = some (.int .i64 n) := by
      have : (cs1.toList.drop j).take 1 = [.int .i64 n] := e1
      have h6 : ((cs1.toList.drop j).take 1)[0]? = some (.int .i64 n) := by rw [this]; rfl
      rw [List.getElem?_take_of_lt (by omega), List.getElem?_drop] at h6
      exact h6
    rw [Array.getElem?_toList] at e5
    rw [e5]
    exact congrArg (fun z => some (Value.int .i64 z)) e3.symm
/-- the door's own heap meets the condition -/
theorem door_met (os : Os) (args : Array Value) : laidMetH Tryz.prog [("math/bits.deBruijn32tab", Rows.laid_math_bits_deBruijn32tab), ("math/bits.deBruijn64tab", Rows.laid_math_bits_deBruijn64tab), ("rosette/shuffle.fours", Rows.laid_rosette_shuffle_fours)] ((World.doorLaid Tryz.prog 400 os).forCall (fun _ _ => 0) ⟨#[], args, []⟩).memory :=
  laidMetH_of_parts3 (fuel := 8) (laidMet_of_run' 8 (by kernel_rfl) (by kernel_rfl)) (by kernel_rfl) (by kernel_rfl)
/-- a row of whole numbers, opened: its cells -/
theorem open_longs {H : Type} {enc : TypeId × Value → H} {P : Program} {w : World} {base : Nat} {spare : Nat → Bool} {held : Bool} {t e : TypeId} {k : IntKind} {fuel : Nat} {cs : List Value} {x : DataW H × List MemPlace} (ht : P.underlying t = some (.slice e)) (he : P.underlying e = some (.int k)) (hc : P.cellsOf e = 1)
    (h : DataW.trod enc P w base spare held fuel t cs = some x) :
    cs = [.slice none 0 0] ∨ ∃ (a : Addr) (len cap : Nat), cs = [.slice (some a) len cap] ∧ len ≤ cap ∧ cap ≤ maxLen ∧ ∀ i, i < len → ∃ y, w.cell? (a.add i) = some (.int k y) ∧ (Lit.int k y).wf = true := by
  rcases DataW.trod_slice ht h with h0 | ⟨a, len, cap, elems, rest, n, _, rfl, rfl, hb, hl, hm, hlen, hel, hsp, hns⟩
  · exact Or.inl h0.1
  · refine Or.inr ⟨a, len, cap, rfl, hl, hm, fun i hi => ?_⟩
    have h1 := hel i hi
    have h2 : elems[i]? = some elems[i] := List.getElem?_eq_getElem (by omega)
    rw [h2, hc, Nat.mul_one, Option.bind_eq_some_iff] at h1
    obtain ⟨cs', hcs, hy'⟩ := h1
    obtain ⟨y, rfl, hw, h5⟩ := DataW.trod_int he hy'
    exact ⟨y, cell_of_cells?_one hcs, h5⟩
theorem lt_of_cellA {w : World} {a : Addr} {v : Value} (h : w.cell? a = some v) : a.block < w.heap.size := by
  refine Nat.lt_of_not_le fun hle => ?_
  have h1 : w.heap[a.block]? = none := Array.getElem?_eq_none hle
  cases a
  simp_all [World.cell?]
/-- a row of whole numbers that is handed in, as the walks want it -/
theorem argI {H : Type} {enc : TypeId × Value → H} {w : World} {base : Nat} {spare : Nat → Bool} {held : Bool} {d : DataW H} {p : List MemPlace} {ad : Option Addr} {len cap : Nat}
    (h : DataW.Trod enc Tryz.prog w base spare held 22 (.slice ad len cap) d p) : ∃ f, Fl.ArgI w ad len cap f := by
  obtain ⟨fuel, hf⟩ := h
  rcases open_longs Tryz.underlying22 Tryz.underlying2 cellsL hf with hcs | ⟨a, len', cap', hcs, g1, g2, g3⟩
  · simp [Value.cells] at hcs
    obtain ⟨rfl, rfl, rfl⟩ := hcs
    exact ⟨fun _ => 0, by omega, by unfold maxLen; omega, fun h => absurd h (by omega)⟩
  · simp [Value.cells] at hcs
    obtain ⟨rfl, rfl, rfl⟩ := hcs
    have key : ∀ i, ∃ y, i < len → w.cell? (a.add i) = some (.int .i64 y) ∧ Fl.In64 y := fun i => by
      by_cases hi : i < len
      · obtain ⟨y, h1, h2⟩ := g3 i hi
        exact ⟨y, fun _ => ⟨h1, by
          have h4 : IntKind.i64.min ≤ y ∧ y ≤ 9223372036854775807 := by simpa [Lit.wf] using h2
          have h5 : IntKind.i64.min = -9223372036854775808 := rfl
          unfold Fl.In64
          omega⟩⟩
      · exact ⟨0, fun h => absurd h hi⟩
    obtain ⟨f, hf⟩ := Classical.axiomOfChoice key
    refine ⟨f, g1, g2, fun hp => ⟨a, rfl, ?_, fun i hi => hf i hi⟩⟩
    have h0 := (hf 0 hp).1
    have h1 := lt_of_cellA h0
    unfold Addr.add at h1
    rw [if_pos rfl] at h1
    exact h1
end Go.Proofs.YteiggpgpkejoeaaGreatDoor
