import Derived.Test.YtbhaebemaggjfaaDoorSK
namespace Go.Proofs.YtbhaebemaggjfaaDoor
open Go.RowKit
set_option linter.unusedVariables false

/-- full rows that lie apart, from one another and from the row bl that lists them -/
structure Ap (m : Nat) (V : Nat → Value) (nn : Nat → Nat) (base bl : Nat) : Prop where
  val : ∀ k, k < m → ∃ ad, V k = .slice ad (nn k) (nn k)
  apart : ∀ j k, j < m → k < m → ∀ b, (V j).ownBlock = some b → (V k).ownBlock = some b → j = k
  off : ∀ k, k < m → (V k).ownBlock ≠ some bl
  lo : ∀ k, k < m → ∀ b, (V k).ownBlock = some b → base ≤ b
  small : ∀ k, k < m → nn k ≤ 1048576
/-- what they hold -/
def Hd (m : Nat) (V : Nat → Value) (nn : Nat → Nat) (base bl : Nat) (zss : Nat → List (Nat × Nat)) (w : World) : Prop :=
  (∀ k, k < m → w.ownsRow base 36 1 (V k) (nn k) (cz (zss k))) ∧ (∀ k, k < m → w.cell? ⟨bl, k, none⟩ = some (V k))
/-- marks as far as k rows, of the next one as far as i -/
def fl (zss : Nat → List (Nat × Nat)) (nn : Nat → Nat) (k : Nat) : Nat → List (Nat × Nat) := fun j => if j < k then mz (j : Int) (nn j) else zss j
def up (f : Nat → List (Nat × Nat)) (k : Nat) (l : List (Nat × Nat)) : Nat → List (Nat × Nat) := fun j => if j = k then l else f j
theorem up_same (f : Nat → List (Nat × Nat)) (k : Nat) (l : List (Nat × Nat)) : up f k l k = l := if_pos rfl
theorem up_ne {f : Nat → List (Nat × Nat)} {k j : Nat} {l : List (Nat × Nat)} (h : j ≠ k) : up f k l j = f j := if_neg h
theorem up_self (f : Nat → List (Nat × Nat)) (k : Nat) : up f k (f k) = f := by
  funext j
  by_cases h : j = k
  · subst h; exact up_same _ _ _
  · exact up_ne h
/-- a row marked as far as i -/
def pm (k : Int) (zs : List (Nat × Nat)) (i : Nat) : List (Nat × Nat) := (List.range zs.length).map fun j => if j < i then mn k (j : Int) else zs.getD j (0, 0)
theorem pm_0 (k : Int) (zs : List (Nat × Nat)) : pm k zs 0 = zs := by
  unfold pm
  refine List.ext_getElem (by simp) fun i h1 h2 => ?_
  simp only [List.getElem_map, List.getElem_range]
  rw [if_neg (by omega), List.getD_eq_getElem?_getD, List.getElem?_eq_getElem h2]
  rfl
theorem pm_len (k : Int) (zs : List (Nat × Nat)) (i : Nat) : (pm k zs i).length = zs.length := by simp [pm]
theorem pm_set (k : Int) (zs : List (Nat × Nat)) (i : Nat) (h : i < zs.length) : (pm k zs i).set i (mn k (i : Int)) = pm k zs (i + 1) := by
  unfold pm
  refine List.ext_getElem (by simp) fun j h1 h2 => ?_
  rw [List.getElem_set]
  simp only [List.getElem_map, List.getElem_range]
  by_cases e : i = j
  · subst e
    rw [if_pos rfl, if_pos (by omega)]
  · rw [if_neg e]
    by_cases h : j < i
    · rw [if_pos h, if_pos (by omega)]
    · rw [if_neg h, if_neg (by omega)]
theorem pm_all (k : Int) (zs : List (Nat × Nat)) : pm k zs zs.length = mz k zs.length := by
  unfold pm mz
  refine List.map_congr_left fun i hi => ?_
  rw [if_pos (List.mem_range.1 hi)]
theorem Hd.gr {m : Nat} {V : Nat → Value} {nn : Nat → Nat} {base bl : Nat} {zss : Nat → List (Nat × Nat)} {w w' : World} (h : Hd m V nn base bl zss w) (g : Gr w w') : Hd m V nn base bl zss w' := ⟨fun k hk => g.owns (h.1 k hk), fun k hk => g.keep (h.2 k hk)⟩
/-- one number of one row is marked -/
theorem Hd.mark {m : Nat} {V : Nat → Value} {nn : Nat → Nat} {base bl : Nat} {f : Nat → List (Nat × Nat)} {w : World} (A : Ap m V nn base bl) {k b n : Nat} (hk : k < m) (hV : V k = .slice (some ⟨b, 0, none⟩) n n) (hn : nn k = n) {zs : List (Nat × Nat)} (h : Hd m V nn base bl (up f k zs) w) (i x y : Nat) :
    Hd m V nn base bl (up f k (zs.set i (x, y))) (w.setCell ⟨b, i, none⟩ (.complex .f64 x y)) := by
  have hbl : b ≠ bl := fun e => A.off k hk (by rw [hV]; simp [Value.ownBlock, e])
  refine ⟨fun j hj => ?_, fun j hj => ?_⟩
  · by_cases e : j = k
    · subst e
      have h1 := h.1 j hj
      rw [up_same] at h1 ⊢
      rw [hV, hn] at h1 ⊢
      exact ownsC_set' h1 i x y
    · have h1 := h.1 j hj
      rw [up_ne e] at h1 ⊢
      refine (Gx.setCell (Gx.refl b w) i (.complex .f64 x y)).owns h1 fun c hc ec => e ?_
      subst ec
      exact A.apart j k hj hk c hc (by rw [hV]; rfl)
  · rw [World.cell?_setCell_other _ _ _ _ (fun e => hbl (by injection e))]
    exact h.2 j hj
end Go.Proofs.YtbhaebemaggjfaaDoor
