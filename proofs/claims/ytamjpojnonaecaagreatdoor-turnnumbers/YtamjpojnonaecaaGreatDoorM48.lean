import Derived.Test.YtamjpojnonaecaaGreatDoorM14
import Derived.Test.YtamjpojnonaecaaGreatDoorM39
import Derived.Test.YtamjpojnonaecaaGreatDoorM09
namespace Go.Proofs.YtamjpojnonaecaaGreatDoor
open Go.RowKit
open Ieee
set_option linter.unusedVariables false

/-! WHEEL: THE ROW OF THE FOURTEENTH ORDER -/
def v1 (V : Nat → Nat × Nat) (c j : Nat) : List (Nat × Nat) := (List.range c).map fun i => if i < j then V i else (0, 0)
def v2 (V : Nat → Nat × Nat) (j : Nat) : List (Nat × Nat) := (List.range 4096).map fun i => if i < 2049 ∨ 4096 - j ≤ i then V i else (0, 0)
def vr (V : Nat → Nat × Nat) (c : Nat) : List (Nat × Nat) := (List.range c).map V
theorem v1_zero (V : Nat → Nat × Nat) (c : Nat) : v1 V c 0 = List.replicate c (0, 0) := by
  unfold v1
  refine List.ext_getElem (by simp) fun i h1 h2 => ?_
  simp
theorem v1_next (V : Nat → Nat × Nat) (c j : Nat) (h : j < c) : (v1 V c j).set j (V j) = v1 V c (j + 1) := by
  unfold v1
  refine List.ext_getElem (by simp) fun i h1 h2 => ?_
  simp only [List.getElem_set, List.getElem_map, List.getElem_range]
  by_cases h3 : j = i
  · subst h3; simp
  · rw [if_neg h3]
    by_cases h4 : i < j
    · rw [if_pos h4, if_pos (by omega)]
    · rw [if_neg h4, if_neg (by omega)]
theorem v1_all (V : Nat → Nat × Nat) (c : Nat) : v1 V c c = vr V c := by
  unfold v1 vr
  refine List.ext_getElem (by simp) fun i h1 h2 => ?_
  have : i < c := by simpa using h2
  simp [this]
theorem v1_mid (V : Nat → Nat × Nat) : v1 V 4096 2049 = v2 V 0 := by
  unfold v1 v2
  refine List.ext_getElem (by simp) fun i h1 h2 => ?_
  have h3 : i < 4096 := by simpa using h2
  simp only [List.getElem_map, List.getElem_range]
  by_cases h4 : i < 2049
  · rw [if_pos h4, if_pos (Or.inl h4)]
  · rw [if_neg h4, if_neg (by omega)]
theorem v2_all (V : Nat → Nat × Nat) : v2 V 2048 = vr V 4096 := by
  unfold v2 vr
  refine List.ext_getElem (by simp) fun i h1 h2 => ?_
  simp only [List.getElem_map, List.getElem_range]
  rw [if_pos (by omega)]
theorem v2_get (V : Nat → Nat × Nat) (j : Nat) (h : j < 2048) : (v2 V j).getD (1 + j) (0, 0) = V (1 + j) := by
  unfold v2
  rw [List.getD_eq_getElem?_getD, List.getElem?_map, List.getElem?_range (by omega)]
  simp only [Option.map_some, Option.getD_some]
  rw [if_pos (by omega)]
theorem v2_next (V : Nat → Nat × Nat) (hV : ∀ j, j < 2048 → V (4095 - j) = ((V (1 + j)).2, (V (1 + j)).1)) (j : Nat) (h : j < 2048) : (v2 V j).set (4095 - j) (((v2 V j).getD (1 + j) (0, 0)).2, ((v2 V j).getD (1 + j) (0, 0)).1) = v2 V (j + 1) := by
  rw [v2_get V j h, ← hV j h]
  unfold v2
  refine List.ext_getElem (by simp) fun i h1 h2 => ?_
  simp only [List.getElem_set, List.getElem_map, List.getElem_range]
  by_cases h3 : 4095 - j = i
  · subst h3; rw [if_pos rfl, if_pos (by omega)]
  · rw [if_neg h3]
    by_cases h4 : i < 2049 ∨ 4096 - j ≤ i
    · rw [if_pos h4, if_pos (by omega)]
    · rw [if_neg h4, if_neg (by omega)]
theorem vr_at (V : Nat → Nat × Nat) (c i : Nat) (h : i < c) : (vr V c).getD i (0, 0) = V i := by
  unfold vr
  rw [List.getD_eq_getElem?_getD, List.getElem?_map, List.getElem?_range h]
  rfl
def NearF (V : Nat → Nat × Nat) (w : World) : Prop := ∀ (i : Nat) (w1 : World), i ≤ 2048 → Gr w w1 → Calls Tryz.prog 103 #[.int .i64 14, .int .i64 (i : Int)] w1 fun r w' => r = .returned (.tuple #[.complex .f64 (V i).1 (V i).2, .int .i64 0]) ∧ Gr w1 w'
set_option maxHeartbeats 1600000 in
theorem fq14 (V : Nat → Nat × Nat) (w : World) (ht : ∀ j, j < 2048 → V (4095 - j) = ((V (1 + j)).2, (V (1 + j)).1)) (hn : NearF V w) : Calls Tryz.prog 97 #[.int .i64 14] w fun r w' => ∃ g, w.heap.size ≤ g ∧ r = .returned (.tuple #[.slice (some ⟨g, 0, none⟩) 4096 4096, .int .i64 0]) ∧ w'.ownsRow g 29 1 (.slice (some ⟨g, 0, none⟩) 4096 4096) 4096 (cz (vr V 4096)) ∧ Gr w w' := by
  have HT := hide ht
  have HN := hide hn
  clear ht hn
  go_enter Tryz.func97, Tryz.ntmps97
  go_wp2_with (at_make; refine wpList_madeC rfl _ _ rfl 4096 _ rfl rfl ?_ ?_ ?_; rotate_right; intro w2 hown0 hg2)
  case' refine_1 => first | rfl | omega
  case' refine_2 => omega
  have G2 : Hid (Gr w w2) := hg2
  clear hg2
  go_loopw [19] (fun i wr => ∃ j : Nat, j ≤ 2049 ∧ i = .int .i64 (j : Int) ∧ wr.ownsRow w.heap.size 29 1 (.slice (some ⟨w.heap.size, 0, none⟩) 4096 4096) 4096 (cz (v1 V 4096 j)) ∧ Hid (Gr w wr)) (fun i _ => 2049 - (intOf i).toNat)
  case atStart => exact ⟨0, by omega, rfl, (by rw [v1_zero]; exact hown0), G2⟩
  case round =>
    obtain ⟨j, hj, rfl, hown, hg⟩ := hrel
    by_cases hlt : j < 2049
    · have i1 : (j : Int) < 2049 := by omega
      have NR := hide (HN.out j wr (by omega) hg.out)
      obtain ⟨u, hu⟩ : ∃ u, u = (V j).1 := ⟨_, rfl⟩
      obtain ⟨v, hv⟩ : ∃ v, v = (V j).2 := ⟨_, rfl⟩
      rw [← hu, ← hv] at NR
      have HO := hide (v1_next V 4096 j (by omega))
      rw [show V j = (u, v) by rw [hu, hv]] at HO
      clear hu hv
      go_wp2_with (go_at_call 103; (with_reducible refine NR.out.mono ?_); rintro r w3 ⟨rfl, g3⟩; have hown1 := g3.owns hown; have hcell := ownsC_cell hown1 j (by omega); have hfz := hown1.frozenAt j)
      go_roundw
      case rel => exact ⟨j + 1, by omega, by go_num, (by rw [← HO.out]; exact ownsC_set hown1 j u v), (hg.out.trans g3).setCell (Nat.le_refl _) _⟩
      case measure => simp only [intOf]; omega
    · have i1 : ¬ (j : Int) < 2049 := by omega
      have hm : v1 V 4096 j = v2 V 0 := by rw [show j = 2049 by omega]; exact v1_mid V
      rw [hm] at hown
      clear hj hlt hm
      go_wp2
      go_loopw [38] (fun i wr' => ∃ j : Nat, j ≤ 2048 ∧ i = .int .i64 (j : Int) ∧ wr'.ownsRow w.heap.size 29 1 (.slice (some ⟨w.heap.size, 0, none⟩) 4096 4096) 4096 (cz (v2 V j)) ∧ Hid (Gr w wr')) (fun i _ => 2048 - (intOf i).toNat)
      case atStart => exact ⟨0, by omega, rfl, hown, hg⟩
      case round =>
        clear hown hg hown0 G2 i1
        obtain ⟨j, hj, rfl, hown, hg⟩ := hrel
        by_cases hlt : j < 2048
        · have i1 : (j : Int) < 2048 := by omega
          have hcell1 := ownsC_cell hown (1 + j) (by omega)
          have hcell2 := ownsC_cell hown (4095 - j) (by omega)
          have hfz := hown.frozenAt (4095 - j)
          have HO := hide (v2_next V HT.out j (by omega))
          skip
          generalize ((v2 V j).getD (1 + j) (0, 0)).1 = u at *
          generalize ((v2 V j).getD (1 + j) (0, 0)).2 = v at *
          generalize ((v2 V j).getD (4095 - j) (0, 0)).1 = u0 at *
          generalize ((v2 V j).getD (4095 - j) (0, 0)).2 = v0 at *
          go_wp2_with (go_at_call 104; (with_reducible refine (acrossE _ _ _).mono ?_); rintro r w3 ⟨rfl, rfl⟩)
          go_roundw
          case rel => exact ⟨j + 1, by omega, by go_num, (by rw [← HO.out]; exact ownsC_set hown (4095 - j) v u), hg.out.setCell (Nat.le_refl _) _⟩
          case measure => simp only [intOf]; omega
        · have i1 : ¬ (j : Int) < 2048 := by omega
          have hm : v2 V j = vr V 4096 := by rw [show j = 2048 by omega]; exact v2_all V
          rw [hm] at hown
          go_wp2
          go_ret2
          exact ⟨_, Nat.le_refl _, rfl, hown, hg.out⟩
set_option maxHeartbeats 1600000 in
theorem roots14 (V X : Nat → Nat × Nat) (c : Nat) (w : World) (ht : ∀ j, j < 2048 → V (4095 - j) = ((V (1 + j)).2, (V (1 + j)).1)) (hx : ∀ i, i < 16384 → double.add (tW (4 * i / 16384) (V (i % 4096))).1 0 = some (X i).1 ∧ double.add (tW (4 * i / 16384) (V (i % 4096))).2 0 = some (X i).2) (hn : NearF V w) (hc : c ≤ 16384) : Calls Tryz.prog 77 #[.int .i64 14, .int .i64 (c : Int)] w fun r w' => ∃ g, w.heap.size ≤ g ∧ r = .returned (.tuple #[.slice (some ⟨g, 0, none⟩) c c, .int .i64 0]) ∧ w'.ownsRow g 29 1 (.slice (some ⟨g, 0, none⟩) c c) c (cz (vr X c)) ∧ Gr w w' := by
  have HT := hide hx
  have FQ := hide (fq14 V w ht hn)
  clear ht hx hn
  go_enter Tryz.func77, Tryz.ntmps77
  go_wp2_with (first | (at_make; refine wpList_madeC rfl _ _ rfl c _ rfl rfl rfl ?_ ?_; rotate_right; intro w2 hown0 hg2) | (go_at_call 97; (with_reducible refine FQ.out.mono ?_); rintro r w1 ⟨g, hgs, rfl, hfq, gfq⟩))
  case' refine_1 => omega
  have hg0 := g_lt hfq
  have FW := hide (hg2.owns hfq)
  have G2 : Hid (Gr w w2) := gfq.trans hg2
  have hle := gfq.size
  clear hg2 hfq
  generalize w1.heap.size = b at *
  go_loopw [21] (fun i wr => ∃ j : Nat, j ≤ c ∧ i = .int .i64 (j : Int) ∧ wr.ownsRow b 29 1 (.slice (some ⟨b, 0, none⟩) c c) c (cz (v1 X c j)) ∧ Hid (wr.ownsRow g 29 1 (.slice (some ⟨g, 0, none⟩) 4096 4096) 4096 (cz (vr V 4096))) ∧ Hid (Gr w wr)) (fun i _ => c - (intOf i).toNat)
  case atStart => exact ⟨0, by omega, rfl, (by rw [v1_zero]; exact hown0), FW, G2⟩
  case round =>
    clear hown0 FW G2
    obtain ⟨j, hj, rfl, hown, hfq, hg⟩ := hrel
    by_cases hlt : j < c
    · have i1 : (j : Int) < (c : Int) := by omega
      have hcell1 := ownsC_cell hfq.out (j % 4096) (by omega)
      rw [vr_at V 4096 (j % 4096) (by omega)] at hcell1
      have hcell := ownsC_cell hown j (by omega)
      have hfz := hown.frozenAt j
      have HO := hide (v1_next X c j hlt)
      obtain ⟨q, hq⟩ : ∃ q, q = 4 * j / 16384 := ⟨_, rfl⟩
      have TU := HT.out j (by omega)
      rw [← hq] at TU
      have eq : (4 * (j : Int)) / 16384 = (q : Int) := by omega
      have hq3 : q ≤ 3 := by omega
      obtain ⟨u, hu⟩ : ∃ u, u = (V (j % 4096)).1 := ⟨_, rfl⟩
      obtain ⟨v, hv⟩ : ∃ v, v = (V (j % 4096)).2 := ⟨_, rfl⟩
      obtain ⟨u', hu'⟩ : ∃ u', u' = (X j).1 := ⟨_, rfl⟩
      obtain ⟨v', hv'⟩ : ∃ v', v' = (X j).2 := ⟨_, rfl⟩
      rw [show V (j % 4096) = (u, v) by rw [hu, hv], ← hu', ← hv'] at TU
      rw [← hu, ← hv] at hcell1
      rw [show X j = (u', v') by rw [hu', hv']] at HO
      have TR := hide (fun w => turnedE q u v u' v' w hq3 TU.1 TU.2)
      clear TU hu hv hu' hv' hq
      obtain ⟨m, hm⟩ : ∃ m, m = j % 4096 := ⟨_, rfl⟩
      have et : (j : Int).tmod 4096 = (m : Int) := by rw [Int.tmod_eq_emod_of_nonneg (by omega)]; omega
      have i2 : (m : Int) < 4096 := by omega
      rw [← hm] at hcell1
      clear hm
      have ew : IntKind.i64.wrap (4 * (j : Int)) = 4 * (j : Int) := by rw [IntKind.wrap_i64]; omega
      go_wp2
      go_region_with (go_at_call 98; (with_reducible refine (TR.out _).mono ?_); rintro r w3 ⟨rfl, rfl⟩)
      go_wp2
      go_roundw
      case rel => exact ⟨j + 1, by omega, by go_num, (by rw [← HO.out]; exact (ownsC_set hown j u' v').drew), (owns_other hfq.out hown hg0).drew, (hg.out.setCell hle _).drew⟩
      case measure => simp only [intOf]; omega
    · have i1 : ¬ (j : Int) < (c : Int) := by omega
      rw [show v1 X c j = vr X c by rw [show j = c by omega]; exact v1_all X c] at hown
      go_wp2
      go_ret2
      exact ⟨_, hle, rfl, hown, hg.out⟩
end Go.Proofs.YtamjpojnonaecaaGreatDoor
namespace Go.Proofs.YtamjpojnonaecaaGreatDoor
open Go.RowKit
open Ieee
set_option linter.unusedVariables false

/-! NEAR AT THE FIRST EIGHTH OF THE FOURTEENTH ORDER -/
/-- the words at a place -/
def tF (i : Nat) : Nat × Nat := (nearV i).getD (0, 0)
/-- finite -/
def fiN (x : Nat) : Bool := x % 9223372036854775808 < 9218868437227405312
def okW (x : Nat) : Bool := match double.add x 0 with
  | none => false
  | some y => fiN y
def okF (i : Nat) : Bool := match nearV i with
  | none => false
  | some (x, y) => okW x && okW y && okW (abW x) && okW (abW y)
end Go.Proofs.YtamjpojnonaecaaGreatDoor
namespace Go.Proofs.YtamjpojnonaecaaGreatDoor
theorem okF_0 : (List.range 128).all (fun i => okF (0 + i)) = true := by decide +kernel
end Go.Proofs.YtamjpojnonaecaaGreatDoor
