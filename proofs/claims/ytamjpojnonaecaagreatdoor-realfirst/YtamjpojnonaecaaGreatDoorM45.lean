import Derived.Test.YtamjpojnonaecaaGreatDoorM10
import Derived.Test.YtamjpojnonaecaaGreatDoorM42
import Derived.Test.YtamjpojnonaecaaGreatDoorM44
import Derived.Test.YtamjpojnonaecaaGreatDoorRows
import Derived.WalkKit
import Derived.ProofKit
import Derived.OpenShut
import Derived.LaidMore
import Derived.Stop.Joined
import Derived.Laws.Cover2
import Derived.ChangeSlices
import Derived.Carry
import Derived.Deep.Strs
namespace Go.Proofs.YtamjpojnonaecaaGreatDoor
open Go.ChangeShapes Go.WideShapes Go.ChangeAt Go.RowKit
set_option linter.unusedVariables false

/-! THE FRAME OF THE STATEMENTS ON REALS: two tables are laid, rows of reals are handed in -/
theorem own : ownKnob Tryz.prog.godebug = none := by kernel_rfl
theorem laidOut : laidOutB Tryz.prog = true := by kernel_rfl
theorem cellsI : Tryz.prog.cellsOf 3 = 1 := by kernel_rfl
theorem cellsB : Tryz.prog.cellsOf 5 = 1 := by kernel_rfl
theorem cellsF : Tryz.prog.cellsOf 27 = 1 := by kernel_rfl
theorem gTab : Tryz.prog.globalNamed "math/bits.deBruijn64tab" = some 2 := by kernel_rfl
theorem tTab : (Tryz.prog.globals[2]?).map (·.type) = some 202 := by kernel_rfl
theorem gFou : Tryz.prog.globalNamed "rosette/shuffle.fours" = some 1 := by kernel_rfl
theorem tFou : (Tryz.prog.globals[1]?).map (·.type) = some 149 := by kernel_rfl
theorem laid_list {H : Type} : (Rows.laid_math_bits_deBruijn64tab : DataW H) = .agg (Lib.deBruijn64tab.map fun (n : Nat) => .lit (.int .u8 (n : Int))) := rfl
theorem laid_fours {H : Type} : (Rows.laid_rosette_shuffle_fours : DataW H) = .agg (fours.map fun (n : Nat) => .lit (.int .i64 (n : Int))) := rfl
theorem tab_len : Lib.deBruijn64tab.length = 64 := rfl
theorem fou_len : fours.length = 16 := rfl
set_option maxRecDepth 100000 in
/-- what the listed variables give: the tables' cells -/
theorem tabs_of_laid {W : World} (h : laidMetH Tryz.prog [("math/bits.deBruijn64tab", Rows.laid_math_bits_deBruijn64tab), ("rosette/shuffle.fours", Rows.laid_rosette_shuffle_fours)] W) : TabAt 2 Lib.deBruijn64tab W ∧ TabF W := by
  rw [MakeChecks.laidMetH_plain _ _ _ (by kernel_rfl)] at h
  obtain ⟨ps, ⟨g0, t0, cs0, f0, p0, q0, hg0, ht0, hv0, hd0, hrest, _⟩, _, _⟩ := h
  obtain ⟨g1, t1, cs1, f1, p1, q1, hg1, ht1, hv1, hd1, _, _⟩ := hrest
  constructor
  · obtain rfl := Option.some.inj (gTab.symm.trans hg0)
    obtain rfl := Option.some.inj (tTab.symm.trans ht0)
    obtain ⟨xs, m1, rfl, hx1, hlen, hn3, hel⟩ := DataW.trod_array Tryz.underlying202 hd0
    rw [laid_list] at hx1
    have hx2 : Lib.deBruijn64tab.map (fun (n : Nat) => (.lit (.int .u8 (n : Int)) : DataW Unit)) = xs.map (·.1) := by
      injection hx1 with h1 h2
      injection h1
    intro j hj
    rw [tab_len] at hj
    have h0 := hel j hj
    rw [cellsB, Nat.mul_one] at h0
    have hxj : xs[j]? = some xs[j] := List.getElem?_eq_getElem (by omega)
    rw [hxj] at h0
    obtain ⟨n, e1, e2, _⟩ := DataW.trod_int Tryz.underlying5 h0
    have e3 : (xs.map (·.1))[j]? = some (.lit (.int .u8 n)) := by
      rw [List.getElem?_map, hxj, e2]; rfl
    rw [← hx2, List.getElem?_map, List.getElem?_eq_getElem (by rw [tab_len]; exact hj)] at e3
    simp only [Option.map_some] at e3
    injection e3 with e3
    injection e3 with e3
    injection e3 with _ e3
    rw [World.var?_cell hg0 hv0 j, List.getD_eq_getElem?_getD, List.getElem?_eq_getElem (by rw [tab_len]; exact hj)]
    simp only [Option.getD_some]
    have e5 : cs0.toList[j]? = some (.int .u8 n) := by
      have : (cs0.toList.drop j).take 1 = [.int .u8 n] := e1
      have h6 : ((cs0.toList.drop j).take 1)[0]? = some (.int .u8 n) := by rw [this]; rfl
      rw [List.getElem?_take_of_lt (by omega), List.getElem?_drop] at h6
      exact h6
    rw [Array.getElem?_toList] at e5
    rw [e5]
    exact congrArg (fun z => some (Value.int .u8 z)) e3.symm
  · obtain rfl := Option.some.inj (gFou.symm.trans hg1)
    obtain rfl := Option.some.inj (tFou.symm.trans ht1)
    obtain ⟨xs, m1, rfl, hx1, hlen, hn3, hel⟩ := DataW.trod_array Tryz.underlying149 hd1
    rw [laid_fours] at hx1
    have hx2 : fours.map (fun (n : Nat) => (.lit (.int .i64 (n : Int)) : DataW Unit)) = xs.map (·.1) := by
      injection hx1 with h1 h2
      injection h1
    intro j hj
    have h0 := hel j hj
    rw [cellsI, Nat.mul_one] at h0
    have hxj : xs[j]? = some xs[j] := List.getElem?_eq_getElem (by omega)
    rw [hxj] at h0
    obtain ⟨n, e1, e2, _⟩ := DataW.trod_int Tryz.underlying3 h0
    have e3 : (xs.map (·.1))[j]? = some (.lit (.int .i64 n)) := by
      rw [List.getElem?_map, hxj, e2]; rfl
    rw [← hx2, List.getElem?_map, List.getElem?_eq_getElem (by rw [fou_len]; exact hj)] at e3
    simp only [Option.map_some] at e3
    injection e3 with e3
    injection e3 with e3
    injection e3 with _ e3
    rw [World.var?_cell hg1 hv1 j, List.getD_eq_getElem?_getD, List.getElem?_eq_getElem (by rw [fou_len]; exact hj)]
    simp only [Option.getD_some]
    have e5 : cs1.toList[j]? = some (.int .i64 n) := by
      have : (cs1.toList.drop j).take 1 = [.int .i64 n] := e1
      have h6 : ((cs1.toList.drop j).take 1)[0]? = some (.int .i64 n) := by rw [this]; rfl
      rw [List.getElem?_take_of_lt (by omega), List.getElem?_drop] at h6
      exact h6
    rw [Array.getElem?_toList] at e5
    rw [e5]
    exact congrArg (fun z => some (Value.int .i64 z)) e3.symm
/-- the door's own heap meets the condition -/
theorem door_met (os : Os) (args : Array Value) : laidMetH Tryz.prog [("math/bits.deBruijn64tab", Rows.laid_math_bits_deBruijn64tab), ("rosette/shuffle.fours", Rows.laid_rosette_shuffle_fours)] ((World.doorLaid Tryz.prog 400 os).forCall (fun _ _ => 0) ⟨#[], args, []⟩).memory :=
  laidMetH_of_parts3 (fuel := 8) (laidMet_of_run' 8 (by kernel_rfl) (by kernel_rfl)) (by kernel_rfl) (by kernel_rfl)
theorem trod_flt {H : Type} {enc : TypeId × Value → H} {P : Program} {w : World} {base : Nat} {spare : Nat → Bool} {held : Bool} {e : TypeId} {k : FloatKind} {fuel : Nat} {cs : List Value} {x : DataW H × List MemPlace} (ht : P.underlying e = some (.float k)) (h : DataW.trod enc P w base spare held fuel e cs = some x) : ∃ b, cs = [.float k b] ∧ (Lit.float k b).wf = true := by
  cases fuel with
  | zero => simp [DataW.trod] at h
  | succ n =>
    unfold DataW.trod at h
    rw [ht] at h
    split at h <;> simp_all
/-- a row of floats, opened: its cells -/
theorem open_flts {H : Type} {enc : TypeId × Value → H} {P : Program} {w : World} {base : Nat} {spare : Nat → Bool} {held : Bool} {t e : TypeId} {k : FloatKind} {fuel : Nat} {cs : List Value} {x : DataW H × List MemPlace} (ht : P.underlying t = some (.slice e)) (he : P.underlying e = some (.float k)) (hc : P.cellsOf e = 1)
    (h : DataW.trod enc P w base spare held fuel t cs = some x) :
    cs = [.slice none 0 0] ∨ ∃ (a : Addr) (len cap : Nat), cs = [.slice (some a) len cap] ∧ len ≤ cap ∧ cap ≤ maxLen ∧ ∀ i, i < len → ∃ y, w.cell? (a.add i) = some (.float k y) ∧ (Lit.float k y).wf = true := by
  rcases DataW.trod_slice ht h with h0 | ⟨a, len, cap, elems, rest, n, _, rfl, rfl, hb, hl, hm, hlen, hel, hsp, hns⟩
  · exact Or.inl h0.1
  · refine Or.inr ⟨a, len, cap, rfl, hl, hm, fun i hi => ?_⟩
    have h1 := hel i hi
    have h2 : elems[i]? = some elems[i] := List.getElem?_eq_getElem (by omega)
    rw [h2, hc, Nat.mul_one, Option.bind_eq_some_iff] at h1
    obtain ⟨cs', hcs, hy'⟩ := h1
    obtain ⟨y, rfl, hw⟩ := trod_flt he hy'
    exact ⟨y, cell_of_cells?_one hcs, hw⟩
theorem lt_of_cellA {w : World} {a : Addr} {v : Value} (h : w.cell? a = some v) : a.block < w.heap.size := by
  refine Nat.lt_of_not_le fun hle => ?_
  have h1 : w.heap[a.block]? = none := Array.getElem?_eq_none hle
  cases a
  simp_all [World.cell?]
/-- a row of reals that is handed in, as the walks want it -/
theorem argR {H : Type} {enc : TypeId × Value → H} {w : World} {base : Nat} {spare : Nat → Bool} {held : Bool} {d : DataW H} {p : List MemPlace} {ad : Option Addr} {len cap : Nat}
    (h : DataW.Trod enc Tryz.prog w base spare held 33 (.slice ad len cap) d p) : ∃ f, Fl.ArgR w ad len cap f := by
  obtain ⟨fuel, hf⟩ := h
  rcases open_flts Tryz.underlying33 Tryz.underlying27 cellsF hf with hcs | ⟨a, len', cap', hcs, g1, g2, g3⟩
  · simp [Value.cells] at hcs
    obtain ⟨rfl, rfl, rfl⟩ := hcs
    exact ⟨fun _ => 0, by omega, by unfold maxLen; omega, fun h => absurd h (by omega)⟩
  · simp [Value.cells] at hcs
    obtain ⟨rfl, rfl, rfl⟩ := hcs
    have key : ∀ i, ∃ y, i < len → w.cell? (a.add i) = some (.float .f64 y) ∧ y < 18446744073709551616 := fun i => by
      by_cases hi : i < len
      · obtain ⟨y, h1, h2⟩ := g3 i hi
        exact ⟨y, fun _ => ⟨h1, by simpa [Lit.wf] using h2⟩⟩
      · exact ⟨0, fun h => absurd h hi⟩
    obtain ⟨f, hf⟩ := Classical.axiomOfChoice key
    refine ⟨f, g1, g2, fun hp => ⟨a, rfl, ?_, fun i hi => hf i hi⟩⟩
    have h0 := (hf 0 hp).1
    have h1 := lt_of_cellA h0
    unfold Addr.add at h1
    rw [if_pos rfl] at h1
    exact h1
end Go.Proofs.YtamjpojnonaecaaGreatDoor
namespace Go.Proofs.YtamjpojnonaecaaGreatDoor.Fl
open Go.RowKit
open Ieee
set_option linter.unusedVariables false

/-! RealEven -/
theorem z0_word {x : Nat} (hx : x < 18446744073709551616) (h : z0 (cl x)) : (FloatKind.f64.format.order x 0 != some .eq) = false ∨ ((FloatKind.f64.format.order x 0 != some .eq) = true ∧ (FloatKind.f64.format.order x x == some .eq) = false) := by
  rcases cl_cases x hx with h1 | ⟨s, h1, h2⟩ | ⟨h1, s, f, h2⟩
  · rw [h1] at h
    rcases h with rfl | rfl
    · exact Or.inl (by decide +kernel)
    · exact Or.inr ⟨by decide +kernel, by decide +kernel⟩
  · rw [h1]; left; cases s <;> decide +kernel
  · right
    constructor
    · rw [f64_format]; unfold Format.order; rw [h2]; rfl
    · rw [f64_format]; unfold Format.order; rw [h2]; rfl
theorem rl_wf {w : World} {ad : Option Addr} {l c : Nat} {f : Nat → Nat} (ha : ArgR w ad l c f) (n i : Nat) (hi : i < n) : (rls l f n).getD i 0 < 18446744073709551616 := by
  unfold rls
  rw [List.getD_eq_getElem?_getD, List.getElem?_map, List.getElem?_range hi]
  show rl l f i < _
  unfold rl
  split
  · rename_i hp
    obtain ⟨a, _, _, hc⟩ := ha.2.2 hp
    exact (hc _ (Nat.mod_lt _ hp)).2
  · decide
theorem fw_wfr (k : Nat) (xs : List Nat) (h : ∀ i, i < 2 ^ k → xs.getD i 0 < 18446744073709551616) (i : Nat) : WfZ (fwS k (RT k) (fun i => (cn (xs.getD i 0), 0)) k i) := by
  cases k with
  | zero =>
    show WfZ (cn (xs.getD (rt 0 i) 0), 0)
    exact ⟨cn_lt (h _ (by simp [rt])), show (0 : Nat) < 18446744073709551616 by decide⟩
  | succ k => exact lev_wf _ _ _ _
/-- the transform of a row of reals: alike to its conjugates across; no im at 0 and in the middle, or NaN -/
theorem fw_real (k : Nat) (xs : List Nat) (hk : k ≤ 7) (h : ∀ i, i < 2 ^ k → xs.getD i 0 < 18446744073709551616) :
    (∀ j, j < 2 ^ k → okE (fwS k (RT k) (fun i => (cn (xs.getD i 0), 0)) k) (2 ^ k) j = true) ∧ z0 (cl (fwS k (RT k) (fun i => (cn (xs.getD i 0), 0)) k 0).2) ∧ z0 (cl (fwS k (RT k) (fun i => (cn (xs.getD i 0), 0)) k (2 ^ k / 2)).2) := by
  have hp := Nat.two_pow_pos k
  have ht : ∀ j, j < 2 ^ k → clZ (fwS k (RT k) (fun i => (cn (xs.getD i 0), 0)) k j) = conjC (clZ (fwS k (RT k) (fun i => (cn (xs.getD i 0), 0)) k ((2 ^ k - j) % 2 ^ k))) := by
    intro j hj
    have e : ∀ i, i < 2 ^ k → (fun i => (cn (xs.getD i 0), (0 : Nat))) i = (fun i => (cn (if i < 2 ^ k then xs.getD i 0 else 0), (0 : Nat))) i := fun i hi => by simp only []; rw [if_pos hi]
    have q : (2 ^ k - j) % 2 ^ k < 2 ^ k := Nat.mod_lt _ hp
    rw [fw_congr e hj, fw_congr e q]
    refine fw_ev k _ hk (fun i => ⟨?_, show (0 : Nat) < 18446744073709551616 by decide⟩) (fun i => rfl) j hj
    show cn _ < _
    refine cn_lt ?_
    split
    · rename_i hi; exact h i hi
    · decide
  have fix : ∀ j, j < 2 ^ k → (2 ^ k - j) % 2 ^ k = j → z0 (cl (fwS k (RT k) (fun i => (cn (xs.getD i 0), 0)) k j).2) := fun j hj e => by
    have h1 := ht j hj
    rw [e] at h1
    have h2 : cl (fwS k (RT k) (fun i => (cn (xs.getD i 0), 0)) k j).2 = n2 (cl (fwS k (RT k) (fun i => (cn (xs.getD i 0), 0)) k j).2) := congrArg Prod.snd h1
    exact n2_z0 (cl_lt (fw_wfr k xs h j).2) cl_cl h2.symm
  refine ⟨fun j hj => ?_, fix 0 hp (by rw [Nat.sub_zero, Nat.mod_self]), ?_⟩
  · have h1 := ht j hj
    unfold okE
    have e1 : cl (fwS k (RT k) (fun i => (cn (xs.getD i 0), 0)) k j).1 = cl (fwS k (RT k) (fun i => (cn (xs.getD i 0), 0)) k ((2 ^ k - j) % 2 ^ k)).1 := congrArg Prod.fst h1
    have e2 : cl (fwS k (RT k) (fun i => (cn (xs.getD i 0), 0)) k j).2 = n2 (cl (fwS k (RT k) (fun i => (cn (xs.getD i 0), 0)) k ((2 ^ k - j) % 2 ^ k)).2) := congrArg Prod.snd h1
    rw [n2_cl (fw_wfr k xs h _).2] at e2
    rw [decide_eq_true e1, decide_eq_true e2]
    rfl
  · cases k with
    | zero => exact fix 0 hp rfl
    | succ k =>
      have e : 2 ^ (k + 1) = 2 * 2 ^ k := by rw [Nat.pow_succ, Nat.mul_comm]
      have hp2 := Nat.two_pow_pos k
      refine fix _ (by omega) ?_
      rw [e, Nat.mul_div_cancel_left _ (by omega), show 2 * 2 ^ k - 2 ^ k = 2 ^ k by omega, Nat.mod_eq_of_lt (by omega)]
set_option maxHeartbeats 8000000 in
theorem evenW (x : Int) (ad1 : Option Addr) (l1 c1 : Nat) (f1 : Nat → Nat) (w : World) (hT : TabAt 2 Lib.deBruijn64tab w) (hF : TabF w) (h1 : ArgR w ad1 l1 c1 f1) :
    Calls Tryz.prog 5 #[.int .i64 x, .slice ad1 l1 c1] w fun r w' => r = .returned (.bool true) ∧ Gr w w' := by
  have hk : (x % 7).toNat ≤ 6 := by omega
  have w1 := rl_wf h1 (2 ^ (x % 7).toNat)
  have R1 : Hid (Calls Tryz.prog 24 #[.int .i64 x, .slice ad1 l1 c1] w fun r w' => ∃ ad cap, r = .returned (.tuple #[.slice ad (2 ^ (x % 7).toNat) cap, .int .i64 (((x % 7).toNat : Nat) : Int)]) ∧ Hid (FR w' ad (2 ^ (x % 7).toNat) cap (rls l1 f1 (2 ^ (x % 7).toNat))) ∧ Hid (Gr w w')) := (rowP x ad1 l1 c1 f1 w h1).mono fun r w' ⟨v, e1, e2, e3⟩ => by
    obtain ⟨ad, cap, rfl, hfr⟩ := FR.of_owns e2
    exact ⟨ad, cap, e1, hfr, e3⟩
  have AW : Hid (∀ w1, Gr w w1 → Calls Tryz.prog 23 #[] w1 fun r w' => r = .returned (.bool true) ∧ Hid (Gr w1 w')) := fun w1 hg => awakeP w1 (tab_gr hT hg) (hF.gr hg)
  generalize (x % 7).toNat = k at *
  generalize rls l1 f1 (2 ^ k) = xs at *
  obtain ⟨E1, E2, E3⟩ := fw_real k xs (by omega) w1
  have FW : Hid (∀ wA adA cA, Gr w wA → FR wA adA (2 ^ k) cA xs → Calls Tryz.prog 16 #[.slice adA (2 ^ k) cA] wA fun r w' => ∃ g, r = .returned (.tuple #[.slice (some ⟨g, 0, none⟩) (2 ^ k) (2 ^ k), .int .i64 0]) ∧ Hid (TR w' g (2 ^ k) (fwS k (RT k) (fun i => (cn (xs.getD i 0), 0)) k)) ∧ Hid (Gr wA w')) := fun wA adA cA hg ha => (rforwardP k (2 ^ k) cA adA xs wA (tab_gr hT hg) (hF.gr hg) (by omega) rfl ha w1).mono fun r w' ⟨g, e1, e2, e3, e4⟩ => ⟨g, e2, e3, e4⟩
  have EV : Hid (∀ w1 g, TR w1 g (2 ^ k) (fwS k (RT k) (fun i => (cn (xs.getD i 0), 0)) k) → Calls Tryz.prog 21 #[.slice (some ⟨g, 0, none⟩) (2 ^ k) (2 ^ k)] w1 fun r w' => r = .returned (.bool true) ∧ Hid (Gr w1 w')) := fun w1 g ht => by
    have hle : 2 ^ k ≤ 64 := Nat.pow_le_pow_right (n := 2) (by omega) hk
    exact evenP k (2 ^ k) (2 ^ k) _ _ w1 (by omega) rfl ht.cf (by omega) (Nat.le_refl _) E1
  generalize fwS k (RT k) (fun i => (cn (xs.getD i 0), 0)) k = Y at *
  have HE1 := hide E1
  have HE2 := hide E2
  have HE3 := hide E3
  clear hT hF h1 w1 E1 E2 E3
  have hle : 2 ^ k ≤ 64 := Nat.pow_le_pow_right (n := 2) (by omega) hk
  have hpos : 0 < 2 ^ k := Nat.two_pow_pos k
  generalize 2 ^ k = n at *
  obtain ⟨m, hm⟩ : ∃ m, m = n / 2 := ⟨_, rfl⟩
  have em : (n : Int).tdiv 2 = (m : Int) := by rw [hm, Int.ofNat_tdiv]; rfl
  have hmn : m < n := by omega
  rw [← hm] at HE3
  clear hm
  go_enter Tryz.func5, Tryz.ntmps5
  go_wp2_with (first | (go_at_call 24; (with_reducible refine R1.out.mono ?_); rintro r wA ⟨adA, cA, rfl, hfA, hgA⟩) | (go_at_call 16; (with_reducible refine (FW.out _ _ _ hgA.out hfA.out).mono ?_); rintro r wB ⟨g, rfl, hTy, hgB⟩) | (go_at_call 21; (with_reducible refine (EV.out _ _ hTy.out).mono ?_); rintro r wC ⟨rfl, hgC⟩))
  have BL := hide (lit_block wC (Obj.cells #[.int .i64 0, .int .i64 (m : Int)] 3))
  have TY : Hid (TR (wC.alloc (Obj.cells #[.int .i64 0, .int .i64 (m : Int)] 3)) g n Y) := (hTy.out.gr hgC.out).gr ((Gr.refl wC).alloc _)
  have GG : Hid (Gr w (wC.alloc (Obj.cells #[.int .i64 0, .int .i64 (m : Int)] 3))) := ((hgA.out.trans hgB.out).trans hgC.out).alloc _
  clear hTy hgA hgB hgC hfA R1 FW EV
  generalize wC.alloc (Obj.cells #[.int .i64 0, .int .i64 (m : Int)] 3) = wD at *
  generalize wC.heap.size = b at *
  have cb0 : Hid (wD.cell? ⟨b, 0, none⟩ = some (.int .i64 0)) := by
    show wD.cell? ⟨b, 0, none⟩ = some (.int .i64 0)
    simp only [World.cell?, BL.out]; rfl
  have cb1 : Hid (wD.cell? ⟨b, 1, none⟩ = some (.int .i64 (m : Int))) := by
    show wD.cell? ⟨b, 1, none⟩ = some (.int .i64 (m : Int))
    simp only [World.cell?, BL.out]; rfl
  clear BL
  go_loopw [45] (fun i wr => ∃ q : Nat, q ≤ 2 ∧ i = .int .i64 (q : Int) ∧ wr = wD) (fun i _ => 2 - (intOf i).toNat)
  case atStart => exact ⟨0, by omega, rfl, rfl⟩
  case round =>
    obtain ⟨q, hq, rfl, rfl⟩ := hrel
    by_cases hlt : q < 2
    · obtain ⟨j, hj, hcell, hz⟩ : ∃ j, j < n ∧ wr.cell? ⟨b, q, none⟩ = some (.int .i64 ((j : Nat) : Int)) ∧ Hid (z0 (cl (Y j).2)) := by
        rcases (show q = 0 ∨ q = 1 by omega) with rfl | rfl
        · exact ⟨0, hpos, cb0.out, HE2⟩
        · exact ⟨m, hmn, cb1.out, HE3⟩
      obtain ⟨u, v, c1', z1⟩ := TY.out.cell hj
      have hzz : z0 (cl v) := by have := hz.out; rw [← z1.out.2.1, cl_cn] at this; exact this
      have hvv := z0_word z1.out.2.2.2 hzz
      have i1 : (q : Int) < 2 := by omega
      have i2 : (j : Int) < (n : Int) := by omega
      clear hz hzz z1
      rcases hvv with hv | ⟨hv, hv2⟩
      · go_wp2
        go_roundw
        case rel => exact ⟨q + 1, by omega, by go_num, trivial⟩
        case measure => simp only [intOf]; omega
      · go_wp2
        go_roundw
        case rel => exact ⟨q + 1, by omega, by go_num, trivial⟩
        case measure => simp only [intOf]; omega
    · have i1 : ¬ (q : Int) < 2 := by omega
      go_wp2
      go_loopw [13] (fun i wq => ∃ j : Nat, 1 ≤ j ∧ j ≤ n ∧ i = .int .i64 (j : Int) ∧ Hid (Gr wr wq)) (fun i _ => n - (intOf i).toNat)
      case atStart => exact ⟨1, by omega, by omega, rfl, Gr.refl _⟩
      case round =>
        obtain ⟨j, hj0, hj, rfl, hg⟩ := hrel
        by_cases hjl : j < n
        · have i2 : (j : Int) < (n : Int) := by omega
          obtain ⟨q2, hq2⟩ : ∃ q2, q2 = n - j := ⟨_, rfl⟩
          have hq2n : q2 < n := by omega
          have e2 : (n : Int) - (j : Int) = (q2 : Int) := by omega
          have e3 : (n - j) % n = q2 := by rw [Nat.mod_eq_of_lt (by omega)]; exact hq2.symm
          obtain ⟨x1, y1, d1, z1⟩ := (TY.out.gr hg.out).cell hjl
          obtain ⟨u, v, d2, z2⟩ := (TY.out.gr hg.out).cell hq2n
          have CJ : Hid (∀ w, Calls Tryz.prog 26 #[.complex .f64 u v] w fun r w' => r = .returned (.complex .f64 u (ng v)) ∧ w' = w) := fun w => (conjP u v _ w z2.out).mono fun r w' h => ⟨h.1, h.2.2⟩
          have z2' : IsZ (Y ((n - j) % n)) u v := by rw [e3]; exact z2.out
          have lk := like_ok z1.out z2'
          rw [HE1.out j hjl] at lk
          have LK := hide (fun w => likeP x1 y1 u (ng v) true w lk)
          have i3 : (q2 : Int) < (n : Int) := by omega
          clear lk z1 z2 z2' hq2
          generalize ng v = v' at *
          go_wp2
          go_quiet ((first | (go_at_call 26; exact Calls.quiet_of_same (CJ.out _)) | (go_at_call 25; exact Calls.quiet_of_same (LK.out _))))
          go_wp2
          go_roundw
          case rel => exact ⟨j + 1, by omega, by omega, by go_num, by first | exact hg.out | exact hg.out.drewN _ | exact (hg.out.drewN _).drewN _⟩
          case measure => simp only [intOf]; omega
        · have i2 : ¬ (j : Int) < (n : Int) := by omega
          have AW1 := hide (AW.out _ (GG.out.trans hg.out))
          go_wp2_with (go_at_call 23; (with_reducible refine AW1.out.mono ?_); rintro r wE ⟨rfl, hgE⟩)
          go_ret
          exact ⟨rfl, (GG.out.trans hg.out).trans hgE.out⟩
end Go.Proofs.YtamjpojnonaecaaGreatDoor.Fl
namespace Go.Proofs.YtamjpojnonaecaaGreatDoor.Fl
open Go.RowKit
open Ieee
set_option linter.unusedVariables false

/-! RealNumbers: what is refused; what is not Even -/
theorem rforwardN (n cap : Nat) (ad : Option Addr) (w : World) (h : ¬ (0 < (n : Int) ∧ (n : Int) ≤ 16384 ∧ bits .and .i64 (n : Int) ((n : Int) - 1) = 0)) (b2 : n ≤ 1048576) :
    Calls Tryz.prog 16 #[.slice ad n cap] w fun r w' => r = .returned (.tuple #[.slice none 0 0, .int .i64 4]) ∧ Hid (Gr w w') := by
  have HO := hide (fun w1 => hasOrderN (n : Int) w1 h (by omega) (by omega))
  clear h
  go_enter Tryz.func16, Tryz.ntmps16
  go_wp2_with (go_at_call 38; (with_reducible refine (HO.out _).mono ?_); rintro r w1 ⟨rfl, rfl⟩)
  go_ret2
  exact ⟨rfl, Gr.refl _⟩
theorem wovenN1 (n m c1 c2 : Nat) (a1 a2 : Option Addr) (w : World) (h : (n : Int) ≠ (m : Int)) :
    Calls Tryz.prog 39 #[.slice a1 n c1, .slice a2 m c2] w fun r w' => r = .returned (.tuple #[.slice none 0 0, .int .i64 4]) ∧ w = w' := by
  have h' : ((n : Int) == (m : Int)) = false := by simpa using h
  go_enter Tryz.func39, Tryz.ntmps39
  go_wp2
  go_ret2
  exact ⟨rfl, rfl⟩
theorem wovenN2 (n c1 c2 : Nat) (a1 a2 : Option Addr) (w : World) (h : ¬ (0 < (n : Int) ∧ (n : Int) ≤ 16384 ∧ bits .and .i64 (n : Int) ((n : Int) - 1) = 0)) (b2 : n ≤ 1048576) :
    Calls Tryz.prog 39 #[.slice a1 n c1, .slice a2 n c2] w fun r w' => r = .returned (.tuple #[.slice none 0 0, .int .i64 4]) ∧ w = w' := by
  have HO : Hid (∀ w1, Calls Tryz.prog 38 #[.int .i64 (n : Int)] w1 fun r w' => r = .returned (.bool false) ∧ w1 = w') := fun w1 => (hasOrderN (n : Int) w1 h (by omega) (by omega)).mono fun r w' h => ⟨h.1, h.2.symm⟩
  clear h
  go_enter Tryz.func39, Tryz.ntmps39
  go_wp2_with (go_at_call 38; (with_reducible refine (HO.out _).mono ?_); rintro r w1 ⟨rfl, rfl⟩)
  go_ret2
  exact ⟨rfl, rfl⟩
theorem bothN (n m c1 c2 : Nat) (a1 a2 : Option Addr) (w : World) (h : Calls Tryz.prog 39 #[.slice a1 n c1, .slice a2 m c2] w fun r w' => r = .returned (.tuple #[.slice none 0 0, .int .i64 4]) ∧ w = w') :
    Calls Tryz.prog 17 #[.slice a1 n c1, .slice a2 m c2] w fun r w' => r = .returned (.tuple #[.slice none 0 0, .slice none 0 0, .int .i64 4]) ∧ Hid (Gr w w') := by
  have H := hide h
  clear h
  go_enter Tryz.func17, Tryz.ntmps17
  go_wp2_with (go_at_call 39; (with_reducible refine H.out.mono ?_); rintro r w1 ⟨rfl, rfl⟩)
  go_ret3
  exact ⟨rfl, Gr.refl _⟩
theorem halfWheelN (n : Int) (w : World) (b1 : -9223372036854775808 ≤ n) (b2 : n ≤ 9223372036854775807) (h : ∀ k : Nat, k ≤ 14 → ((2 ^ k : Nat) : Int) ≠ n) :
    Calls Tryz.prog 32 #[.int .i64 n] w fun r w' => r = .returned (.tuple #[.int .i64 0, .slice none 0 0, .int .i64 4]) ∧ w = w' := by
  have HO : Hid (∀ w1, Calls Tryz.prog 54 #[.int .i64 n] w1 fun r w' => r = .returned (.tuple #[.int .i64 0, .bool false]) ∧ w1 = w') := fun w1 => (order6_no n w1 b1 b2 h).mono fun r w' h => ⟨h.1, h.2.symm⟩
  clear h
  go_enter Tryz.func32, Tryz.ntmps32
  go_wp2_with (go_at_call 54; (with_reducible refine (HO.out _).mono ?_); rintro r w1 ⟨rfl, rfl⟩)
  go_ret3
  exact ⟨rfl, rfl⟩
theorem backN (n cap : Nat) (ad : Option Addr) (w : World) (b2 : n ≤ 1048576) (h : ∀ k : Nat, k ≤ 14 → ((2 ^ k : Nat) : Int) ≠ (n : Int)) :
    Calls Tryz.prog 11 #[.slice ad n cap] w fun r w' => r = .returned (.tuple #[.slice none 0 0, .int .i64 4]) ∧ w = w' := by
  have HO := hide (fun w => halfWheelN (n : Int) w (by omega) (by omega) h)
  clear h
  go_enter Tryz.func11, Tryz.ntmps11
  go_wp2_with (go_at_call 32; (with_reducible refine (HO.out _).mono ?_); rintro r w1 ⟨rfl, rfl⟩)
  go_ret2
  exact ⟨rfl, rfl⟩
theorem forwardN (n cap : Nat) (ad : Option Addr) (w : World) (b2 : n ≤ 1048576) (h : ∀ k : Nat, k ≤ 14 → ((2 ^ k : Nat) : Int) ≠ (n : Int)) :
    Calls Tryz.prog 9 #[.slice ad n cap] w fun r w' => r = .returned (.tuple #[.slice none 0 0, .int .i64 4]) ∧ w = w' := by
  have HO := hide (fun w => halfWheelN (n : Int) w (by omega) (by omega) h)
  clear h
  go_enter Tryz.func9, Tryz.ntmps9
  go_wp2_with (go_at_call 32; (with_reducible refine (HO.out _).mono ?_); rintro r w1 ⟨rfl, rfl⟩)
  go_ret2
  exact ⟨rfl, rfl⟩
theorem rbackN (n cap : Nat) (ad : Option Addr) (w : World) (b2 : n ≤ 1048576) (h : ∀ k : Nat, k ≤ 14 → ((2 ^ k : Nat) : Int) ≠ (n : Int)) :
    Calls Tryz.prog 18 #[.slice ad n cap] w fun r w' => r = .returned (.tuple #[.slice none 0 0, .int .i64 4]) ∧ Hid (Gr w w') := by
  have HO := hide (fun w => backN n cap ad w b2 h)
  clear h
  go_enter Tryz.func18, Tryz.ntmps18
  go_wp2_with (go_at_call 11; (with_reducible refine (HO.out _).mono ?_); rintro r w1 ⟨rfl, rfl⟩)
  go_ret2
  exact ⟨rfl, Gr.refl _⟩
theorem evenN (n cap : Nat) (ad : Option Addr) (w : World) (h : ¬ (0 < (n : Int) ∧ (n : Int) ≤ 16384 ∧ bits .and .i64 (n : Int) ((n : Int) - 1) = 0)) (b2 : n ≤ 1048576) :
    Calls Tryz.prog 21 #[.slice ad n cap] w fun r w' => r = .returned (.bool false) ∧ Hid (Gr w w') := by
  have HO := hide (fun w1 => hasOrderN (n : Int) w1 h (by omega) (by omega))
  clear h
  go_enter Tryz.func21, Tryz.ntmps21
  go_wp2_with (go_at_call 38; (with_reducible refine (HO.out _).mono ?_); rintro r w1 ⟨rfl, rfl⟩)
  go_ret
  exact ⟨rfl, Gr.refl _⟩
set_option maxHeartbeats 2000000 in
theorem evenF (k n cap j0 : Nat) (ad : Option Addr) (F : Nat → Nat × Nat) (w : World) (hk : k ≤ 14) (hn : n = 2 ^ k) (hz : CF w ad n F) (hcap : cap ≤ 9223372036854775807) (hle' : n ≤ cap) (hj0 : j0 < n) (hok : ∀ j, j < j0 → okE F n j = true) (hno : okE F n j0 = false) :
    Calls Tryz.prog 21 #[.slice ad n cap] w fun r w' => r = .returned (.bool false) ∧ Hid (Gr w w') := by
  have hpos : 0 < n := by rw [hn]; exact Nat.two_pow_pos k
  have hle : n ≤ 16384 := by rw [hn]; exact Nat.pow_le_pow_right (n := 2) (by omega) hk
  obtain ⟨b, rfl, hb, hc⟩ := hz hpos
  have HC := hide hc
  have HOK := hide hok
  have HNO := hide hno
  have HO : Hid (∀ w1, Calls Tryz.prog 38 #[.int .i64 (n : Int)] w1 fun r w' => r = .returned (.bool true) ∧ w1 = w') := fun w1 => (hasOrderK k (n : Int) w1 hk (by rw [hn])).mono fun r w' h => ⟨h.1, h.2.symm⟩
  have AO := hide (acrossP (n : Int) w)
  clear hz hc hok hn hno
  go_enter Tryz.func21, Tryz.ntmps21
  go_wp2_with (first | (go_at_call 38; (with_reducible refine (HO.out _).mono ?_); rintro r w1 ⟨rfl, rfl⟩) | (go_at_call 40; (with_reducible refine AO.out.mono ?_); rintro r w2 ⟨rfl, hB, hg2⟩))
  have G2 := hide hg2
  have HB := hide hB
  clear hg2 hB HO
  generalize w.heap.size = B at *
  go_loopw [15] (fun i wr => ∃ j : Nat, j ≤ j0 ∧ i = .int .i64 (j : Int) ∧ Hid (wr.cell? ⟨B, 0, none⟩ = some (.int .i64 (n : Int))) ∧ Hid (Gr w wr)) (fun i _ => n - (intOf i).toNat)
  case atStart => exact ⟨0, by omega, rfl, HB, G2⟩
  case round =>
    clear HB G2
    obtain ⟨j, hj, rfl, hB, hg⟩ := hrel
    have hlt : j < n := by omega
    have i1 : (j : Int) < (n : Int) := by omega
    have hq : (n - j) % n < n := Nat.mod_lt _ hpos
    obtain ⟨x, y, c1, z1⟩ := HC.out j hlt
    obtain ⟨u, v, c2, z2⟩ := HC.out _ hq
    have k1 := hg.out.keep c1
    have k2 := hg.out.keep c2
    have A1 := hide (across1P n j B wr hlt hle hB.out)
    have CJ := hide (fun w => conjP u v _ w z2)
    have lk := like_ok z1 z2
    by_cases he : j < j0
    · rw [HOK.out j he] at lk
      have LK := hide (fun w => likeP x y u (ng v) true w lk)
      clear c1 c2 z1 z2 lk
      generalize (n - j) % n = q at *
      have i2 : (q : Int) < (n : Int) := by omega
      generalize ng v = v' at *
      go_wp2_with (first | (go_at_call 60; (with_reducible refine A1.out.mono ?_); rintro r w3 ⟨rfl, rfl⟩) | (go_at_call 26; (with_reducible refine (CJ.out _).mono ?_); rintro r w3 ⟨rfl, -, rfl⟩) | (go_at_call 25; (with_reducible refine (LK.out _).mono ?_); rintro r w3 ⟨rfl, rfl⟩))
      go_roundw
      case rel => exact ⟨j + 1, by omega, by go_num, hB, hg⟩
      case measure => simp only [intOf]; omega
    · obtain rfl : j = j0 := by omega
      rw [HNO.out] at lk
      have LK := hide (fun w => likeP x y u (ng v) false w lk)
      clear c1 c2 z1 z2 lk
      generalize (n - j) % n = q at *
      have i2 : (q : Int) < (n : Int) := by omega
      generalize ng v = v' at *
      go_wp2_with (first | (go_at_call 60; (with_reducible refine A1.out.mono ?_); rintro r w3 ⟨rfl, rfl⟩) | (go_at_call 26; (with_reducible refine (CJ.out _).mono ?_); rintro r w3 ⟨rfl, -, rfl⟩) | (go_at_call 25; (with_reducible refine (LK.out _).mono ?_); rintro r w3 ⟨rfl, rfl⟩))
      go_ret
      exact ⟨rfl, hg⟩
theorem nanP (w : World) : Calls Tryz.prog 22 #[] w fun e w' => e = .returned (.float .f64 9221120237041090561) ∧ w' = w := by
  have b2 := from13
  go_enter Tryz.func22, Tryz.ntmps22
  go_wp2
  go_ret
  exact ⟨rfl, rfl⟩
end Go.Proofs.YtamjpojnonaecaaGreatDoor.Fl
