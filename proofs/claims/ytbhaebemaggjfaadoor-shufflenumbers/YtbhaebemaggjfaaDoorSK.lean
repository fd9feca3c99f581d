import Derived.Test.YtbhaebemaggjfaaDoorSJ
namespace Go.Proofs.YtbhaebemaggjfaaDoor
open Go.RowKit
set_option linter.unusedVariables false

/-- all but one block as it was -/
structure Gx (g : Nat) (w w' : World) : Prop where
  os : w'.os = w.os
  output : w'.output = w.output
  size : w.heap.size ≤ w'.heap.size
  block : ∀ k, k < w.heap.size → k ≠ g → w'.heap[k]? = w.heap[k]?
theorem Gx.refl (g : Nat) (w : World) : Gx g w w := ⟨rfl, rfl, Nat.le_refl _, fun _ _ _ => rfl⟩
theorem Gx.setCell {g : Nat} {a w : World} (h : Gx g a w) (i : Nat) (v : Value) : Gx g a (w.setCell ⟨g, i, none⟩ v) :=
  ⟨h.os, h.output, by simpa [World.setCell] using h.size, fun k hk hne => by
    rw [← h.block k hk hne]
    simp only [World.setCell, Array.getElem?_modify, if_neg (Ne.symm hne)]⟩
theorem Gx.gr {g : Nat} {a w w' : World} (h : Gx g w w') (ha : Gr a w) (hg : a.heap.size ≤ g) : Gr a w' :=
  ⟨h.os.trans ha.os, h.output.trans ha.output, Nat.le_trans ha.size h.size, fun k hk => (h.block k (Nat.lt_of_lt_of_le hk ha.size) (by omega)).trans (ha.block k hk)⟩
theorem lt_of_get {w : World} {k : Nat} {o : Obj} (h : w.heap[k]? = some o) : k < w.heap.size := by
  refine Nat.lt_of_not_le fun hle => ?_
  rw [Array.getElem?_eq_none hle] at h
  cases h
theorem Gx.owns {g : Nat} {w w' : World} (h : Gx g w w') {base : Nat} {e : TypeId} {size : Nat} {v : Value} {n : Nat} {xs : List Value} (ho : w.ownsRow base e size v n xs) (hv : ∀ k, v.ownBlock = some k → k ≠ g) : w'.ownsRow base e size v n xs := by
  refine ⟨ho.1, ?_⟩
  rcases ho.2 with ⟨rfl, rfl⟩ | ⟨b, cap, cur, rfl, hb, hg, h1, h2, h3, h4⟩
  · exact Or.inl ⟨rfl, rfl⟩
  · refine Or.inr ⟨b, cap, cur, rfl, hb, ?_, h1, h2, h3, h4⟩
    rw [h.block b (lt_of_get hg) (hv b rfl)]
    exact hg
theorem ownsC_set' {w : World} {base : Nat} {g N cap : Nat} {zs : List (Nat × Nat)} (h : w.ownsRow base 36 1 (.slice (some ⟨g, 0, none⟩) N cap) N (cz zs)) (j x y : Nat) : (w.setCell ⟨g, j, none⟩ (.complex .f64 x y)).ownsRow base 36 1 (.slice (some ⟨g, 0, none⟩) N cap) N (cz (zs.set j (x, y))) := by
  have := (h.stored j (.complex .f64 x y)).1
  rw [show cz (zs.set j (x, y)) = (cz zs).set j (.complex .f64 x y) by simp [cz]]
  exact this
set_option maxRecDepth 20000 in
set_option maxHeartbeats 4000000 in
theorem over22 (base g n cap : Nat) (zs : List (Nat × Nat)) (w : World) (hn : n ≤ 1048576) (ho : w.ownsRow base 36 1 (.slice (some ⟨g, 0, none⟩) (n + 12) cap) (n + 12) (cz zs)) :
    Calls Tryd.prog 22 #[.slice (some ⟨g, 0, none⟩) n cap] w fun r w' => r = .returned (.tuple #[]) ∧ Gx g w w' := by
  obtain ⟨c1, c2, _, _⟩ := owns_cap ho
  have c2' : cap ≤ 9223372036854775807 := c2
  clear c2
  have MK : Hid (∀ (i : Nat) w1, i ≤ 10000000 → Calls Tryd.prog 27 #[.int .i64 2, .int .i64 (i : Int)] w1 fun r w' => r = .returned (.int .i64 (mk 2 (i : Int))) ∧ w1 = w') := fun i w1 h => mark27 2 (i : Int) w1 (by omega) (by omega) (by omega) (by omega)
  have hst : ∀ (a : Addr) (x y : Nat) (w : World), (store a (.complex .f64 x y)).run Tryd.prog w = stored Tryd.prog w a (.complex .f64 x y) .plain := fun a x y w => run_store _ _ _ _ _ rfl
  have HO := hide ho
  clear ho
  go_enter Tryd.func22, Tryd.ntmps22
  go_wp2
  go_loopw [3] (fun i wr => ∃ (k : Nat) (ys : List (Nat × Nat)), k ≤ n + 12 ∧ i = .int .i64 (k : Int) ∧ Hid (wr.ownsRow base 36 1 (.slice (some ⟨g, 0, none⟩) (n + 12) cap) (n + 12) (cz ys)) ∧ Hid (Gx g w wr)) (fun i _ => n + 12 - (intOf i).toNat)
  case atStart => exact ⟨0, zs, by omega, rfl, HO, Gx.refl _ _⟩
  case round =>
    obtain ⟨k, ys, hk, rfl, hown, hg⟩ := hrel
    by_cases hlt : k < n + 12
    · have hdst := ownsC_cell' hown.out k hlt
      have hfz := hown.out.frozenAt k
      have MKk := hide (MK.out k wr (by omega))
      generalize (ys.getD k (0, 0)).1 = d1 at *
      generalize (ys.getD k (0, 0)).2 = d2 at *
      have i2 : (k : Int) < (n : Int) + 12 := by omega
      go_wp2_with (go_at_call 27; (with_reducible refine MKk.out.mono ?_); rintro r w1 ⟨rfl, rfl⟩)
      go_roundw
      case rel => exact ⟨k + 1, _, by omega, by go_num, ownsC_set' hown.out k _ _, hg.out.setCell k _⟩
      case measure => simp only [intOf]; omega
    · have hkn : k = n + 12 := by omega
      subst hkn
      go_wp2
      refine bodyPost_end (v := .tuple #[]) (by simp [results, Tryd.results22, go_sem]) rfl ⟨rfl, hg.out⟩
end Go.Proofs.YtbhaebemaggjfaaDoor
