import Derived.Test.YtbhaebemaggjfaaDoorSH
namespace Go.Proofs.YtbhaebemaggjfaaDoor
open Go.RowKit
set_option linter.unusedVariables false

/-- the marks -/
def mk (k i : Int) : Int := 1000003 * (k + 7) + i
theorem mark27 (k i : Int) (w : World) (k0 : 0 ≤ k) (k1 : k ≤ 1000) (i0 : 0 ≤ i) (i1 : i ≤ 10000000) : Calls Tryd.prog 27 #[.int .i64 k, .int .i64 i] w fun r w' => r = .returned (.int .i64 (mk k i)) ∧ w = w' := by
  go_enter Tryd.func27, Tryd.ntmps27
  go_wp2
  go_ret
  exact ⟨rfl, rfl⟩
/-- a marked number -/
def mn (k i : Int) : Nat × Nat := (floatOfInt .f64 (mk k i), 4607182418800017408)
/-- marks in a row -/
def mz (k : Int) (n : Nat) : List (Nat × Nat) := (List.range n).map fun (i : Nat) => mn k (i : Int)
theorem mz_len (k : Int) (n : Nat) : (mz k n).length = n := by simp [mz]
theorem mz_succ (k : Int) (n : Nat) : mz k (n + 1) = mz k n ++ [mn k (n : Int)] := by
  unfold mz
  rw [List.range_succ, List.map_append]
  rfl
theorem mz_get (k : Int) (n j : Nat) (h : j < n) : (mz k n).getD j (0, 0) = mn k (j : Int) := by
  rw [List.getD_eq_getElem?_getD, List.getElem?_eq_getElem (by rw [mz_len]; exact h)]
  simp [mz]
set_option maxRecDepth 20000 in
set_option maxHeartbeats 4000000 in
theorem lent20 (n c : Nat) (b : Nat) (zs : List (Nat × Nat)) (w : World) (n0 : 0 < n) (hn : n ≤ 1048576) (hr : CR w (some ⟨b, 0, none⟩) n c zs) :
    Calls Tryd.prog 20 #[.slice (some ⟨b, 0, none⟩) n c] w fun r w' => ∃ g cap, r = .returned (.slice (some ⟨g, 0, none⟩) n cap) ∧ w'.ownsRow w.heap.size 36 1 (.slice (some ⟨g, 0, none⟩) (n + 12) cap) (n + 12) (cz (zs ++ mz 1 12)) ∧ Gr w w' := by
  have l1 := hr.le
  have m1 := hr.max
  have hlen := hr.len
  obtain ⟨b', hb', hb, hc⟩ := hr.cells n0
  obtain rfl : b = b' := by injection hb' with h; injection h
  have HC := hide hc
  have MK : Hid (∀ (i : Nat) w1, i ≤ 12 → Calls Tryd.prog 27 #[.int .i64 1, .int .i64 (i : Int)] w1 fun r w' => r = .returned (.int .i64 (mk 1 (i : Int))) ∧ w1 = w') := fun i w1 h => mark27 1 (i : Int) w1 (by omega) (by omega) (by omega) (by omega)
  clear hr hc hb'
  obtain ⟨i0, hi, hz0, hz1, hz2⟩ := info_parts Tryd.info36
  go_enter Tryd.func20, Tryd.ntmps20
  go_wp2_with (at_make; refine wpList_make_own w rfl _ _ 25 rfl w.heap.size 36 i0 (.complex .f64 0 0) 1 Tryd.underlying25 hi hz0 hz1 .i64 .i64 _ (n + 12) rfl rfl ?c1 ?c2 ?c3 ?c4 ?_)
  case' c1 => omega
  case' c2 => rw [hz2]; omega
  case' c3 => unfold maxLen; omega
  case' c4 => exact Nat.le_refl _
  intro w2 hown0 hgr0
  have g2 := hide ((Gr.refl w).grown hgr0 (fun k h => by cases h))
  clear hgr0
  go_wp2_with (at_builtin; refine wpList_append_fits w2 rfl _ _ 25 rfl w.heap.size 36 i0 1 Tryd.underlying25 hi hz1 w.heap.size 0 (n + 12) [] rfl hown0 ⟨b, 0, none⟩ n c (cz zs) rfl ?d1 ?d2 ?d3 ?d4 ?_)
  case' d1 => rw [cz_length, hlen]; omega
  case' d2 =>
    intro j u hj
    have hjn : j < n := by
      have := (List.getElem?_eq_some_iff.1 hj).1
      rw [cz_length, hlen] at this
      exact this
    rw [cz_get (by rw [hlen]; exact hjn)] at hj
    rw [← hj, ← g2.out.keep (HC.out j hjn)]
    unfold Addr.add
    split
    · rename_i h0; subst h0; rfl
    · simp
  case' d3 => exact cz_one _
  case' d4 => omega
  intro w3 hown1 hgr1
  have g3 := hide (g2.out.grown hgr1 (fun k h => by injection h with h; omega))
  have OW : Hid (w3.ownsRow w.heap.size 36 1 (.slice (some ⟨w.heap.size, 0, none⟩) (n + 0) (n + 12)) (n + 0) (cz (zs ++ mz 1 0))) := by
    rw [show mz 1 0 = [] from rfl, List.append_nil]
    exact hown1
  clear g2 hown0 hown1 hgr1 HC
  go_wp2
  go_loopw [3, 4] (fun v i wr => ∃ k : Nat, k ≤ 12 ∧ i = .int .i64 (k : Int) ∧ v = .slice (some ⟨w.heap.size, 0, none⟩) (n + k) (n + 12) ∧ Hid (wr.ownsRow w.heap.size 36 1 (.slice (some ⟨w.heap.size, 0, none⟩) (n + k) (n + 12)) (n + k) (cz (zs ++ mz 1 k))) ∧ Hid (Gr w wr)) (fun _ i _ => 12 - (intOf i).toNat)
  case atStart => exact ⟨0, by omega, rfl, by simp, OW, g3⟩
  case round =>
    obtain ⟨k, hk, rfl, rfl, hown, hg⟩ := hrel
    by_cases hlt : k < 12
    · have MKk := hide (MK.out k wr hk)
      have hown' := hown.out.alloc (.cells #[.complex .f64 (floatOfInt .f64 (mk 1 (k : Int))) 4607182418800017408] 36)
      go_wp2_with (first | (go_at_call 27; (with_reducible refine MKk.out.mono ?_); rintro r w1 ⟨rfl, rfl⟩) | (at_builtin; refine wpList_append_fits _ rfl _ _ 25 rfl w.heap.size 36 i0 1 Tryd.underlying25 hi hz1 w.heap.size (n + k) (n + 12) (cz (zs ++ mz 1 k)) rfl hown' ⟨wr.heap.size, 0, none⟩ 1 1 (cz [mn 1 (k : Int)]) rfl ?f1 ?f2 ?f3 ?f4 ?_))
      case' f1 => rfl
      case' f2 =>
        intro j u hj
        match j, hj with
        | 0, hj => simp [cz, mn] at hj; subst hj; simp [Addr.add]
      case' f3 => exact cz_one _
      case' f4 => omega
      intro w5 hown2 hgr2
      have g5 := hide ((hg.out.alloc (.cells #[.complex .f64 (floatOfInt .f64 (mk 1 (k : Int))) 4607182418800017408] 36)).grown hgr2 (fun k h => by injection h with h; omega))
      rw [← cz_append, List.append_assoc, ← mz_succ] at hown2
      have OW2 := hide hown2
      clear hown2 hown' hgr2 MKk
      go_wp2
      go_roundw
      case rel => exact ⟨k + 1, by omega, by go_num, by rw [Nat.add_assoc], OW2, g5⟩
      case measure => simp only [intOf]; omega
    · have hkn : k = 12 := by omega
      subst hkn
      go_wp2
      go_ret
      exact ⟨_, _, rfl, hown.out, hg.out⟩
end Go.Proofs.YtbhaebemaggjfaaDoor
