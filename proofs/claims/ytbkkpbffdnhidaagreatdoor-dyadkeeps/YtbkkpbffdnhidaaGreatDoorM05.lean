import Derived.Test.YtbkkpbffdnhidaaGreatDoorM04
import Derived.Test.YtbkkpbffdnhidaaGreatDoorM02
import Derived.ArgAppend
import Derived.OwnWalk
namespace Go.Proofs.YtbkkpbffdnhidaaGreatDoor
open Go.RowKit
set_option linter.unusedVariables false

/-! ROWS OF LIMBS THAT LIE APART, WITH SPARE ROOM -/
def mu (k i : Nat) : Nat := 1000003 * (k + 7) + i
theorem mu_lt {k i : Nat} (h1 : k ≤ 1000) (h2 : i ≤ 10000000) : mu k i < 10000000000 := by unfold mu; omega
theorem wrapU {y : Nat} (h : y < 10000000000) : IntKind.u64.wrap ((y : Nat) : Int) = (y : Int) := by
  simp only [IntKind.wrap_u64]
  omega
theorem mark81 (k i : Nat) (w : World) (k1 : k ≤ 1000) (i1 : i ≤ 10000000) : Calls Tryz.prog 81 #[.int .i64 (k : Int), .int .i64 (i : Int)] w fun r w' => r = .returned (.int .i64 ((mu k i : Nat) : Int)) ∧ w = w' := by
  have e : ((mu k i : Nat) : Int) = 1000003 * ((k : Int) + 7) + (i : Int) := by unfold mu; omega
  rw [e]
  go_enter Tryz.func81, Tryz.ntmps81
  go_wp2
  go_ret
  exact ⟨rfl, rfl⟩
def ml (k n : Nat) : List Nat := (List.range n).map (mu k)
theorem ml_len (k n : Nat) : (ml k n).length = n := by simp [ml]
theorem ml_succ (k n : Nat) : ml k (n + 1) = ml k n ++ [mu k n] := by
  unfold ml
  rw [List.range_succ, List.map_append]
  rfl
theorem ml_get (k n j : Nat) (h : j < n) : (ml k n).getD j 0 = mu k j := by
  rw [List.getD_eq_getElem?_getD, List.getElem?_eq_getElem (by rw [ml_len]; exact h)]
  simp [ml]
theorem ml_take (k n m : Nat) (h : n ≤ m) : (ml k m).take n = ml k n := by
  unfold ml
  rw [← List.map_take, List.take_range, Nat.min_eq_left h]
theorem getD_leftN {xs ys : List Nat} {j : Nat} (h : j < xs.length) : (xs ++ ys).getD j 0 = xs.getD j 0 := by
  rw [List.getD_eq_getElem?_getD, List.getD_eq_getElem?_getD, List.getElem?_append_left h]
/-- a row marked as far as i -/
def pm (k : Nat) (zs : List Nat) (i : Nat) : List Nat := (List.range zs.length).map fun j => if j < i then mu k j else zs.getD j 0
theorem pm_0 (k : Nat) (zs : List Nat) : pm k zs 0 = zs := by
  unfold pm
  refine List.ext_getElem (by simp) fun i h1 h2 => ?_
  simp only [List.getElem_map, List.getElem_range]
  rw [if_neg (by omega), List.getD_eq_getElem?_getD, List.getElem?_eq_getElem h2]
  rfl
theorem pm_len (k : Nat) (zs : List Nat) (i : Nat) : (pm k zs i).length = zs.length := by simp [pm]
theorem pm_set (k : Nat) (zs : List Nat) (i : Nat) (h : i < zs.length) : (pm k zs i).set i (mu k i) = pm k zs (i + 1) := by
  unfold pm
  refine List.ext_getElem (by simp) fun j h1 h2 => ?_
  rw [List.getElem_set]
  simp only [List.getElem_map, List.getElem_range]
  by_cases e : i = j
  · subst e
    rw [if_pos rfl, if_pos (by omega)]
  · rw [if_neg e]
    by_cases h : j < i
    · rw [if_pos h, if_pos (by omega)]
    · rw [if_neg h, if_neg (by omega)]
theorem pm_all (k : Nat) (zs : List Nat) : pm k zs zs.length = ml k zs.length := by
  unfold pm ml
  refine List.map_congr_left fun i hi => ?_
  rw [if_pos (List.mem_range.1 hi)]
/-- all as it was but for one block, and what is new -/
structure Gy (o : Option Nat) (w w' : World) : Prop where
  os : w'.os = w.os
  output : w'.output = w.output
  size : w.heap.size ≤ w'.heap.size
  block : ∀ k, k < w.heap.size → some k ≠ o → w'.heap[k]? = w.heap[k]?
theorem Gy.refl (o : Option Nat) (w : World) : Gy o w w := ⟨rfl, rfl, Nat.le_refl _, fun _ _ _ => rfl⟩
theorem Gy.of_gr {o : Option Nat} {w w' : World} (h : Gr w w') : Gy o w w' := ⟨h.os, h.output, h.size, fun k hk _ => h.block k hk⟩
theorem Gy.gr {o : Option Nat} {w w1 w' : World} (h : Gy o w w1) (g : Gr w1 w') : Gy o w w' :=
  ⟨g.os.trans h.os, g.output.trans h.output, Nat.le_trans h.size g.size, fun k hk hn => (g.block k (Nat.lt_of_lt_of_le hk h.size)).trans (h.block k hk hn)⟩
theorem Gy.grown {o : Option Nat} {w w1 w' : World} {row : Option Nat} (h : Gy o w w1) (g : w1.grownBy w' row) (hr : ∀ k, row = some k → some k = o ∨ w.heap.size ≤ k) : Gy o w w' :=
  ⟨g.os.trans h.os, g.output.trans h.output, Nat.le_trans h.size g.size, fun k hk hn => (g.block k (Nat.lt_of_lt_of_le hk h.size) (fun e => by rcases hr k e.symm with h1 | h1; exact hn h1; omega)).trans (h.block k hk hn)⟩
theorem Gy.owns {o : Option Nat} {w w' : World} (h : Gy o w w') {base : Nat} {e : TypeId} {size : Nat} {v : Value} {n : Nat} {xs : List Value} (ho : w.ownsRow base e size v n xs) (hv : ∀ k, v.ownBlock = some k → some k ≠ o) : w'.ownsRow base e size v n xs := by
  refine ⟨ho.1, ?_⟩
  rcases ho.2 with ⟨rfl, rfl⟩ | ⟨b, cap, cur, rfl, hb, hg, h1, h2, h3, h4⟩
  · exact Or.inl ⟨rfl, rfl⟩
  · refine Or.inr ⟨b, cap, cur, rfl, hb, ?_, h1, h2, h3, h4⟩
    rw [h.block b (lt_of_heap' hg) (hv b rfl)]
    exact hg
where
  lt_of_heap' {w : World} {k : Nat} {o : Obj} (h : w.heap[k]? = some o) : k < w.heap.size := by
    refine Nat.lt_of_not_le fun hle => ?_
    rw [Array.getElem?_eq_none hle] at h
    cases h
theorem Gy.cell {o : Option Nat} {w w' : World} (h : Gy o w w') {b i : Nat} {v : Value} (hc : w.cell? ⟨b, i, none⟩ = some v) (hb : some b ≠ o) : w'.cell? ⟨b, i, none⟩ = some v :=
  (World.cell?_of_block (w := w) (a := ⟨b, i, none⟩) (h.block b (lt_of_cell' hc) hb)).trans hc
/-- rows that lie apart, from one another and from the row bl that lists them -/
structure Ap (m : Nat) (V : Nat → Value) (nn cc : Nat → Nat) (base bl : Nat) : Prop where
  val : ∀ k, k < m → ∃ ad, V k = .slice ad (nn k) (cc k)
  apart : ∀ j k, j < m → k < m → ∀ b, (V j).ownBlock = some b → (V k).ownBlock = some b → j = k
  off : ∀ k, k < m → (V k).ownBlock ≠ some bl
  lo : ∀ k, k < m → ∀ b, (V k).ownBlock = some b → base ≤ b
/-- what they hold -/
def Hd (m : Nat) (V : Nat → Value) (nn : Nat → Nat) (base bl : Nat) (zss : Nat → List Nat) (w : World) : Prop :=
  (∀ k, k < m → w.ownsRow base 49 1 (V k) (nn k) (u64s (zss k))) ∧ (∀ k, k < m → w.cell? ⟨bl, k, none⟩ = some (V k))
def fl (zss : Nat → List Nat) (nn : Nat → Nat) (k : Nat) : Nat → List Nat := fun j => if j < k then ml j (nn j) else zss j
def up (f : Nat → List Nat) (k : Nat) (l : List Nat) : Nat → List Nat := fun j => if j = k then l else f j
theorem up_same (f : Nat → List Nat) (k : Nat) (l : List Nat) : up f k l k = l := if_pos rfl
theorem up_ne {f : Nat → List Nat} {k j : Nat} {l : List Nat} (h : j ≠ k) : up f k l j = f j := if_neg h
theorem up_self (f : Nat → List Nat) (k : Nat) : up f k (f k) = f := by
  funext j
  by_cases h : j = k
  · subst h; exact up_same _ _ _
  · exact up_ne h
theorem fl_succ (zss : Nat → List Nat) (nn : Nat → Nat) (k : Nat) : fl zss nn (k + 1) = up (fl zss nn k) k (ml k (nn k)) := by
  funext j
  show (if j < k + 1 then ml j (nn j) else zss j) = (if j = k then ml k (nn k) else (if j < k then ml j (nn j) else zss j))
  by_cases h : j = k
  · subst h
    rw [if_pos (by omega), if_pos rfl]
  · rw [if_neg h]
    by_cases h2 : j < k
    · rw [if_pos (by omega), if_pos h2]
    · rw [if_neg (by omega), if_neg h2]
theorem fl_at (zss : Nat → List Nat) (nn : Nat → Nat) (k : Nat) : fl zss nn k k = zss k := by
  unfold fl
  rw [if_neg (by omega)]
theorem Hd.gr {m : Nat} {V : Nat → Value} {nn : Nat → Nat} {base bl : Nat} {zss : Nat → List Nat} {w w' : World} (h : Hd m V nn base bl zss w) (g : Gr w w') : Hd m V nn base bl zss w' := ⟨fun k hk => g.owns (h.1 k hk), fun k hk => g.keep (h.2 k hk)⟩
theorem ownsU_cell {w : World} {base : Nat} {g N cap : Nat} {zs : List Nat} (h : w.ownsRow base 49 1 (.slice (some ⟨g, 0, none⟩) N cap) N (u64s zs)) (j : Nat) (hj : j < N) : w.cell? ⟨g, j, none⟩ = some (.int .u64 ((zs.getD j 0 : Nat) : Int)) := by
  have hl : zs.length = N := by have := h.1; rw [u64s_length] at this; omega
  rw [h.cellAt j (by omega), u64s_getD (by omega)]
theorem ownsU_set {w : World} {base : Nat} {g N cap : Nat} {zs : List Nat} (h : w.ownsRow base 49 1 (.slice (some ⟨g, 0, none⟩) N cap) N (u64s zs)) (j v : Nat) : (w.setCell ⟨g, j, none⟩ (.int .u64 (v : Int))).ownsRow base 49 1 (.slice (some ⟨g, 0, none⟩) N cap) N (u64s (zs.set j v)) := by
  have := (h.stored j (.int .u64 (v : Int))).1
  rw [show u64s (zs.set j v) = (u64s zs).set j (.int .u64 (v : Int)) by simp [u64s]]
  exact this
/-- one number of one row is marked -/
theorem Hd.mark {m : Nat} {V : Nat → Value} {nn cc : Nat → Nat} {base bl : Nat} {f : Nat → List Nat} {w : World} (A : Ap m V nn cc base bl) {k b n cap : Nat} (hk : k < m) (hV : V k = .slice (some ⟨b, 0, none⟩) n cap) (hn : nn k = n) {zs : List Nat} (h : Hd m V nn base bl (up f k zs) w) (i x : Nat) :
    Hd m V nn base bl (up f k (zs.set i x)) (w.setCell ⟨b, i, none⟩ (.int .u64 (x : Int))) := by
  have hbl : b ≠ bl := fun e => A.off k hk (by rw [hV]; simp [Value.ownBlock, e])
  refine ⟨fun j hj => ?_, fun j hj => ?_⟩
  · by_cases e : j = k
    · subst e
      have h1 := h.1 j hj
      rw [up_same] at h1 ⊢
      rw [hV, hn] at h1 ⊢
      exact ownsU_set h1 i x
    · have h1 := h.1 j hj
      rw [up_ne e] at h1 ⊢
      refine owns_far h1 (fun hc => e ?_) _ _
      exact A.apart j k hj hk b hc (by rw [hV]; rfl)
  · rw [World.cell?_setCell_other _ _ _ _ (fun e => hbl (by injection e))]
    exact h.2 j hj
theorem ownsU_ad {w : World} {base n cap : Nat} {ad : Option Addr} {zs : List Nat} (h : w.ownsRow base 49 1 (.slice ad n cap) n (u64s zs)) (hn : 0 < cap) : ∃ b, ad = some ⟨b, 0, none⟩ := by
  rcases h.2 with ⟨e, h0⟩ | ⟨g, cap', cur, e, _⟩
  · injection e with _ _ e3
    omega
  · injection e with e1
    exact ⟨g, e1⟩
theorem ownsU_cap {w : World} {base n cap : Nat} {ad : Option Addr} {zs : List Nat} (h : w.ownsRow base 49 1 (.slice ad n cap) n (u64s zs)) : n ≤ cap ∧ cap ≤ 9223372036854775807 := by
  rcases h.2 with ⟨e, h0⟩ | ⟨g, cap', cur, e, _, _, h1, h2, _⟩
  · injection e with _ e2 e3
    omega
  · injection e with _ _ e3
    subst e3
    exact ⟨h1, h2⟩
theorem ownsU_len {w : World} {base n : Nat} {v : Value} {zs : List Nat} (h : w.ownsRow base 49 1 v n (u64s zs)) : zs.length = n := by
  have := h.1
  rw [u64s_length] at this
  omega
theorem ownsU_none {w : World} {base n cap : Nat} {ad : Option Addr} {zs : List Nat} (h : w.ownsRow base 49 1 (.slice ad n cap) n (u64s zs)) (e : ad = none) : n = 0 ∧ cap = 0 := by
  rcases h.2 with ⟨e1, h0⟩ | ⟨g, cap', cur, e1, _⟩
  · injection e1 with _ e2 e3
    exact ⟨e2, e3⟩
  · injection e1 with e1
    rw [e] at e1
    cases e1
theorem ownsU_at {w : World} {base n cap : Nat} {ad : Option Addr} {zs : List Nat} (h : w.ownsRow base 49 1 (.slice ad n cap) n (u64s zs)) {b : Addr} (e : ad = some b) {j : Nat} {u : Value} (hu : (u64s zs)[j]? = some u) : w.cell? (b.add j) = some u := by
  have hl := ownsU_len h
  have hc := ownsU_cap h
  have hj : j < n := by
    have := (List.getElem?_eq_some_iff.1 hu).1
    rw [u64s_length] at this
    omega
  obtain ⟨c, hc⟩ := ownsU_ad h (by omega)
  rw [e] at hc
  injection hc with hc
  subst hc
  subst e
  rw [← hu, ← h.cellAt j (by omega)]
  unfold Addr.add
  split
  · rename_i h0; subst h0; rfl
  · simp
theorem ownsU_form {w : World} {base n : Nat} {v : Value} {zs : List Nat} (h : w.ownsRow base 49 1 v n (u64s zs)) (hn : 0 < n) : ∃ b cap, v = .slice (some ⟨b, 0, none⟩) n cap ∧ (n ≤ cap ∧ cap ≤ 9223372036854775807) := by
  rcases h.2 with ⟨e, h0⟩ | ⟨g, cap, cur, e, _, _, h1, h2, _⟩
  · omega
  · exact ⟨g, cap, e, h1, h2⟩
theorem ownsU_less {w : World} {base N cap : Nat} {ad : Option Addr} {zs : List Nat} (h : w.ownsRow base 49 1 (.slice ad N cap) N (u64s zs)) {n : Nat} (hn : n ≤ N) : w.ownsRow base 49 1 (.slice ad n cap) n (u64s (zs.take n)) := by
  rcases h.2 with ⟨e1, h0⟩ | ⟨g, cap', cur, e1, _⟩
  · injection e1 with e1 e2 e3
    subst e1
    subst e3
    have e4 : n = 0 := by omega
    subst e4
    exact World.ownsRow_nil _ _ _ _
  · injection e1 with e1 e2 e3
    subst e1
    have := owns_take h hn
    rwa [show (u64s zs).take n = u64s (zs.take n) by unfold u64s; rw [← List.map_take]] at this
theorem grown_key {wr : World} {base bgs S n cap q : Nat} {ad : Option Addr} {v : Value} (h : (n + 64 ≤ cap ∧ v = .slice ad (n + 64) cap ∧ wr.ownsRow base 49 1 (.slice ad (n + 64) cap) (n + 64) (u64s (ml q (n + 64)))) ∨ (wr.ownsRow S 49 1 v (n + 64) (u64s (ml q (n + 64))) ∧ wr.ownsRow base 49 1 (.slice ad n cap) n (u64s (ml q n)))) (h1 : bgs + 1 ≤ S) (h2 : base ≤ S) :
    ∃ adg capg, v = .slice adg (n + 64) capg ∧ wr.ownsRow base 49 1 (.slice adg (n + 64) capg) (n + 64) (u64s (ml q (n + 64))) ∧ ((Value.slice adg (n + 64) capg).ownBlock = (Value.slice ad n cap).ownBlock ∨ ∀ b, (Value.slice adg (n + 64) capg).ownBlock = some b → bgs + 1 ≤ b) ∧ wr.ownsRow base 49 1 (.slice ad n cap) n (u64s (ml q n)) := by
  rcases h with ⟨jc, rfl, ho2⟩ | ⟨ho2, ho3⟩
  · refine ⟨ad, cap, rfl, ho2, Or.inl ?_, ?_⟩
    · cases ad <;> rfl
    · have h3 := ownsU_less ho2 (show n ≤ n + 64 by omega)
      rwa [ml_take _ _ _ (by omega)] at h3
  · obtain ⟨b, capg, rfl, _⟩ := ownsU_form ho2 (by omega)
    refine ⟨_, capg, rfl, owns_low ho2 h2, Or.inr fun c hc => ?_, ho3⟩
    have := (ho2.lt c hc).1
    omega
/-- what may have changed: those rows; what lies below base has not -/
def GA (m : Nat) (V : Nat → Value) (base : Nat) (w wr : World) : Prop := (∀ a0, Gr a0 w → a0.heap.size ≤ base → Gr a0 wr) ∧ w.heap.size ≤ wr.heap.size ∧ ∀ c, c < w.heap.size → (∀ j, j < m → (V j).ownBlock ≠ some c) → wr.heap[c]? = w.heap[c]?
theorem GA.refl (m : Nat) (V : Nat → Value) (base : Nat) (w : World) : GA m V base w w := ⟨fun _ h _ => h, Nat.le_refl _, fun _ _ _ => rfl⟩
theorem GA.gr {m : Nat} {V : Nat → Value} {base : Nat} {w wr w' : World} (h : GA m V base w wr) (g : Gr wr w') : GA m V base w w' := ⟨fun a0 h0 hb => (h.1 a0 h0 hb).trans g, Nat.le_trans h.2.1 g.size, fun c hc hp => (g.block c (Nat.lt_of_lt_of_le hc h.2.1)).trans (h.2.2 c hc hp)⟩
theorem GA.drew {m : Nat} {V : Nat → Value} {base : Nat} {w wr : World} (h : GA m V base w wr) : GA m V base w wr.drew := ⟨fun a0 h0 hl => (h.1 a0 h0 hl).drew, h.2.1, h.2.2⟩
theorem GA.gy {m : Nat} {V : Nat → Value} {base : Nat} {w wr w' : World} (h : GA m V base w wr) {q : Nat} (hq : q < m) (g : Gy (V q).ownBlock wr w') (hlo : ∀ b, (V q).ownBlock = some b → base ≤ b) : GA m V base w w' :=
  ⟨fun a0 h0 hb => ⟨g.os.trans (h.1 a0 h0 hb).os, g.output.trans (h.1 a0 h0 hb).output, Nat.le_trans (h.1 a0 h0 hb).size g.size, fun k hk => (g.block k (Nat.lt_of_lt_of_le hk (h.1 a0 h0 hb).size) (fun e => by have := hlo k e.symm; omega)).trans ((h.1 a0 h0 hb).block k hk)⟩,
   Nat.le_trans h.2.1 g.size, fun c hc hp => (g.block c (Nat.lt_of_lt_of_le hc h.2.1) (fun e => hp q hq e.symm)).trans (h.2.2 c hc hp)⟩
theorem GA.set {m : Nat} {V : Nat → Value} {base : Nat} {w wr : World} (h : GA m V base w wr) {b i : Nat} (hb : base ≤ b) (hn : ∀ c, c < w.heap.size → (∀ j, j < m → (V j).ownBlock ≠ some c) → c ≠ b) (v : Value) : GA m V base w (wr.setCell ⟨b, i, none⟩ v) :=
  ⟨fun a0 h0 hl => (h.1 a0 h0 hl).setCell (p := ⟨b, i, none⟩) (Nat.le_trans hl hb) v, by simpa [World.setCell] using h.2.1, fun c hc hp => by
    rw [← h.2.2 c hc hp]
    simp only [World.setCell, Array.getElem?_modify, if_neg (Ne.symm (hn c hc hp))]⟩
theorem Hd.gy {m : Nat} {V : Nat → Value} {nn cc : Nat → Nat} {base bl : Nat} {zss : Nat → List Nat} {w w' : World} (A : Ap m V nn cc base bl) (h : Hd m V nn base bl zss w) {q : Nat} (hq : q < m) (g : Gy (V q).ownBlock w w') (own : w'.ownsRow base 49 1 (V q) (nn q) (u64s (zss q))) : Hd m V nn base bl zss w' := by
  refine ⟨fun k hk => ?_, fun k hk => g.cell (h.2 k hk) (fun e => A.off q hq e.symm)⟩
  by_cases e : k = q
  · subst e; exact own
  · exact g.owns (h.1 k hk) fun b hb hb2 => e (A.apart k q hk hq b hb hb2.symm)
theorem Hd.far {m : Nat} {V : Nat → Value} {nn : Nat → Nat} {base bl : Nat} {f : Nat → List Nat} {w : World} (h : Hd m V nn base bl f w) {g i : Nat} {v : Value} (h1 : ∀ k, k < m → ∀ b, (V k).ownBlock = some b → b ≠ g) (h2 : bl ≠ g) : Hd m V nn base bl f (w.setCell ⟨g, i, none⟩ v) := by
  refine ⟨fun k hk => owns_far (h.1 k hk) (fun e => h1 k hk g e rfl) i v, fun k hk => ?_⟩
  rw [World.cell?_setCell_other _ _ _ _ (fun e => h2 (by injection e with e1; exact e1.symm))]
  exact h.2 k hk
/-- the grown rows, as far as k: each in its row's own room, or in new memory -/
def GT (bgs m : Nat) (V : Nat → Value) (nn : Nat → Nat) (base : Nat) (F : Nat → List Nat) (k : Nat) (w : World) : Prop := ∃ cs : List Value, w.ownsRow bgs 22 1 (.slice (some ⟨bgs, 0, none⟩) m m) m cs ∧ ∀ j, j < k → ∃ v, cs[j]? = some v ∧ w.ownsRow base 49 1 v (nn j + 64) (u64s (F j)) ∧ (v.ownBlock = (V j).ownBlock ∨ ∀ b, v.ownBlock = some b → bgs + 1 ≤ b)
theorem GT.gr {bgs m : Nat} {V : Nat → Value} {nn : Nat → Nat} {base : Nat} {F : Nat → List Nat} {k : Nat} {w w' : World} (h : GT bgs m V nn base F k w) (g : Gr w w') : GT bgs m V nn base F k w' := by
  obtain ⟨cs, h1, h2⟩ := h
  exact ⟨cs, g.owns h1, fun j hj => by obtain ⟨v, e, o, p⟩ := h2 j hj; exact ⟨v, e, g.owns o, p⟩⟩
theorem GT.gy {bgs m : Nat} {V : Nat → Value} {nn cc : Nat → Nat} {base bl : Nat} {F : Nat → List Nat} {k : Nat} {w w' : World} (A : Ap m V nn cc base bl) (hV : ∀ k, k < m → ∀ b, (V k).ownBlock = some b → b < bgs) (h : GT bgs m V nn base F k w) {q : Nat} (hq : q < m) (hk : k ≤ q) (g : Gy (V q).ownBlock w w') : GT bgs m V nn base F k w' := by
  obtain ⟨cs, h1, h2⟩ := h
  refine ⟨cs, g.owns h1 fun b hb e => ?_, fun j hj => ?_⟩
  · injection hb with hb
    subst hb
    exact absurd (show bgs < bgs from hV q hq _ e.symm) (Nat.lt_irrefl _)
  · obtain ⟨v, e, o, p⟩ := h2 j hj
    refine ⟨v, e, g.owns o fun b hb e2 => ?_, p⟩
    rcases p with p | p
    · have := A.apart j q (by omega) hq b (p ▸ hb) e2.symm
      omega
    · have := p b hb
      have := hV q hq b e2.symm
      omega
theorem GT.put {bgs m : Nat} {V : Nat → Value} {nn : Nat → Nat} {base : Nat} {F : Nat → List Nat} {k : Nat} {w : World} (hV : ∀ k, k < m → ∀ b, (V k).ownBlock = some b → b < bgs) (h : GT bgs m V nn base F k w) {v : Value} (hk : k < m) (hv : w.ownsRow base 49 1 v (nn k + 64) (u64s (F k))) (hp : v.ownBlock = (V k).ownBlock ∨ ∀ b, v.ownBlock = some b → bgs + 1 ≤ b) : GT bgs m V nn base F (k + 1) (w.setCell ⟨bgs, k, none⟩ v) := by
  obtain ⟨cs, h1, h2⟩ := h
  have far : ∀ {u : Value} {n j : Nat} {xs : List Value}, j < m → w.ownsRow base 49 1 u n xs → (u.ownBlock = (V j).ownBlock ∨ ∀ b, u.ownBlock = some b → bgs + 1 ≤ b) → (w.setCell ⟨bgs, k, none⟩ v).ownsRow base 49 1 u n xs := fun {u n j xs} hj ho hp => owns_far ho (fun hc => by
    rcases hp with hp | hp
    · have := hV j hj bgs (hp ▸ hc)
      omega
    · have := hp bgs hc
      omega) _ _
  have hl : cs.length = m := by have := h1.1; omega
  refine ⟨cs.set k v, (h1.stored k v).1, fun j hj => ?_⟩
  by_cases e : j = k
  · subst e
    exact ⟨v, by rw [List.getElem?_set_self (by omega)], far hk hv hp, hp⟩
  · obtain ⟨u, e1, o1, p1⟩ := h2 j (by omega)
    exact ⟨u, by rw [List.getElem?_set_ne (Ne.symm e)]; exact e1, far (by omega) o1 p1, p1⟩
theorem GT.lt {bgs m : Nat} {V : Nat → Value} {nn : Nat → Nat} {base : Nat} {F : Nat → List Nat} {k : Nat} {w : World} (h : GT bgs m V nn base F k w) : bgs + 1 ≤ w.heap.size := by
  obtain ⟨cs, h1, _⟩ := h
  exact (h1.lt bgs rfl).2
theorem GT.cell {bgs m : Nat} {V : Nat → Value} {nn : Nat → Nat} {base : Nat} {F : Nat → List Nat} {k : Nat} {w : World} (h : GT bgs m V nn base F k w) {j : Nat} (hj : j < m) : ∃ v, w.cell? ⟨bgs, j, none⟩ = some v := by
  obtain ⟨cs, h1, _⟩ := h
  have hl : cs.length = m := by have := h1.1; omega
  exact ⟨cs[j]'(by omega), by rw [h1.cellAt j (by omega), List.getElem?_eq_getElem (by omega)]⟩
theorem GT.frozen {bgs m : Nat} {V : Nat → Value} {nn : Nat → Nat} {base : Nat} {F : Nat → List Nat} {k : Nat} {w : World} (h : GT bgs m V nn base F k w) {j : Nat} : w.frozen? ⟨bgs, j, none⟩ = false := by
  obtain ⟨cs, h1, _⟩ := h
  exact h1.frozenAt j
theorem GT.at {bgs m : Nat} {V : Nat → Value} {nn : Nat → Nat} {base : Nat} {F : Nat → List Nat} {w : World} (hs : GT bgs m V nn base F m w) {j : Nat} (hj : j < m) : ∃ v, w.cell? ⟨bgs, j, none⟩ = some v ∧ w.ownsRow base 49 1 v (nn j + 64) (u64s (F j)) := by
  obtain ⟨cs, h1, h2⟩ := hs
  obtain ⟨v, e, o, _⟩ := h2 j hj
  exact ⟨v, by rw [h1.cellAt j (by omega)]; exact e, o⟩
/-- one number appended to a row of one's own, somewhere above base -/
theorem wpList_pushY {w0 : World} {ops : Array Oper} {rest : List Oper} {o : Oper} {a : Act} {Q : Exit → Act → World → Prop} (hgd : o.guard = none) (s x : Operand)
    (ho : o.op = .call { callee := .builtin .append, args := #[s, x], argTypes := #[22, 22] }) {base : Nat} {v : Value} {n : Nat} {zs : List Nat} (hown : w0.ownsRow base 49 1 v n (u64s zs)) (y : Nat) (Y : Int)
    (hs : a.eval s = v) (hx : a.eval x = .slice (some ⟨w0.heap.size, 0, none⟩) 1 1) (hY : Y = (y : Int)) (hn : n ≤ 4398046511104) (hb : base ≤ w0.heap.size)
    (h : ∀ v' w', w'.ownsRow base 49 1 v' (n + 1) (u64s (zs ++ [y])) → (∀ oo a0, Gy oo a0 w0 → a0.heap.size ≤ base → Gy oo a0 w') → Gy v.ownBlock w0 w' → wpList Tryz.prog ops Q rest (a.put o.dst v') w') :
    wpList Tryz.prog ops Q (o :: rest) a (w0.alloc (.cells #[.int .u64 Y] 49)) := by
  obtain ⟨i0, hi, hz0, hz1, hz2⟩ := info_parts Tryz.info49
  subst hY
  refine wpList_append_own _ hgd s x 22 ho base 49 i0 (.int .u64 0) 1 8 Tryz.underlying22 hi hz0 hz1 hz2 rfl (by decide) v n (u64s zs) hs (hown.alloc _) ⟨w0.heap.size, 0, none⟩ 1 1 (u64s [y]) hx rfl ?_ (one_u64 _) (by unfold maxLen; omega) (by omega) (by simp; omega) ?_
  · intro j u hj
    match j, hj with
    | 0, hj => simp [u64s] at hj; subst hj; simp [Addr.add]
  · intro v' w' hown' hgr _
    refine h v' w' ?_ ?_ ?_
    · rw [u64s_append]; exact hown'
    · intro oo a0 hg hle
      exact (hg.gr ((Gr.refl w0).alloc _)).grown hgr (fun k hk => Or.inr (Nat.le_trans hle (hown.lt k hk).1))
    · exact (Gy.of_gr ((Gr.refl w0).alloc _)).grown hgr (fun k hk => Or.inl hk.symm)
end Go.Proofs.YtbkkpbffdnhidaaGreatDoor
namespace Go.Proofs.YtbkkpbffdnhidaaGreatDoor
open Go.RowKit
set_option linter.unusedVariables false

theorem Gy.set {g : Nat} {a w : World} (h : Gy (some g) a w) (i : Nat) (v : Value) : Gy (some g) a (w.setCell ⟨g, i, none⟩ v) :=
  ⟨h.os, h.output, by simpa [World.setCell] using h.size, fun k hk hne => by
    rw [← h.block k hk hne]
    have : g ≠ k := fun e => hne (by rw [e])
    simp only [World.setCell, Array.getElem?_modify, if_neg this]⟩
theorem Row.at {w : World} {ad : Option Addr} {n cap : Nat} {xs : List Nat} (h : Row w ad n cap xs) : ∀ b, ad = some b → ∀ j u, (u64s xs)[j]? = some u → w.cell? (b.add j) = some u := by
  intro b e j u hu
  have hj : j < n := by
    have := (List.getElem?_eq_some_iff.1 hu).1
    rw [u64s_length, h.len] at this
    exact this
  obtain ⟨b', off, e', hb, hc⟩ := h.cells (by omega)
  rw [e] at e'
  injection e' with e'
  subst e'
  rw [u64s_getD (by rw [h.len]; exact hj)] at hu
  rw [← hu, ← hc j hj]
  unfold Addr.add
  split
  · rename_i h0; subst h0; rfl
  · simp
set_option maxRecDepth 20000 in
set_option maxHeartbeats 4000000 in
theorem lent37 (ad : Option Addr) (n c : Nat) (xs : List Nat) (w : World) (hn : n ≤ 1048576) (hr : Row w ad n c xs) :
    Calls Tryz.prog 37 #[.slice ad n c] w fun r w' => ∃ g, r = .returned (.slice (some ⟨g, 0, none⟩) n (n + 12)) ∧ w'.ownsRow w.heap.size 49 1 (.slice (some ⟨g, 0, none⟩) (n + 12) (n + 12)) (n + 12) (u64s (xs ++ ml 1 12)) ∧ Gr w w' := by
  have l1 := hr.le
  have m1 := hr.max
  have hlen := hr.len
  have HR := hide hr
  have MK : Hid (∀ (i : Nat) w1, i ≤ 12 → Calls Tryz.prog 81 #[.int .i64 1, .int .i64 (i : Int)] w1 fun r w' => r = .returned (.int .i64 ((mu 1 i : Nat) : Int)) ∧ w1 = w') := fun i w1 h => mark81 1 i w1 (by omega) (by omega)
  clear hr
  obtain ⟨i0, hi, hz0, hz1, hz2⟩ := info_parts Tryz.info49
  go_enter Tryz.func37, Tryz.ntmps37
  go_wp2_with (at_make; refine wpList_make_own w rfl _ _ 22 rfl w.heap.size 49 i0 (.int .u64 0) 1 Tryz.underlying22 hi hz0 hz1 .i64 .i64 _ (n + 12) rfl rfl ?c1 ?c2 ?c3 ?c4 ?_)
  case' c1 => omega
  case' c2 => rw [hz2]; omega
  case' c3 => unfold maxLen; omega
  case' c4 => exact Nat.le_refl _
  intro w2 hown0 hgr0
  have g2 := hide ((Gr.refl w).grown hgr0 (fun k h => by cases h))
  have HR2 := hide (HR.out.gr g2.out)
  clear hgr0
  go_wp2_with (at_builtin; refine wpList_append_fits_any w2 rfl _ _ 22 rfl w.heap.size 49 i0 1 Tryz.underlying22 hi hz1 w.heap.size 0 (n + 12) [] rfl hown0 ad n c (u64s xs) rfl ?d1 ?d5 ?d2 ?d3 ?d4 ?_)
  case' d1 => rw [u64s_length, hlen]; omega
  case' d5 => exact fun e => ⟨by have := HR.out.nil e; omega, HR.out.nil e⟩
  case' d2 => exact HR2.out.at
  case' d3 => exact one_u64 _
  case' d4 => omega
  intro w3 hown1 hgr1
  have g3 := hide (g2.out.grown hgr1 (fun k h => by injection h with h; omega))
  have OW : Hid (w3.ownsRow w.heap.size 49 1 (.slice (some ⟨w.heap.size, 0, none⟩) (n + 0) (n + 12)) (n + 0) (u64s (xs ++ ml 1 0))) := by
    rw [show ml 1 0 = [] from rfl, List.append_nil]
    exact hown1
  clear g2 hown0 hown1 hgr1 HR HR2
  go_wp2
  go_loopw [3, 4] (fun v i wr => ∃ k : Nat, k ≤ 12 ∧ i = .int .i64 (k : Int) ∧ v = .slice (some ⟨w.heap.size, 0, none⟩) (n + k) (n + 12) ∧ Hid (wr.ownsRow w.heap.size 49 1 (.slice (some ⟨w.heap.size, 0, none⟩) (n + k) (n + 12)) (n + k) (u64s (xs ++ ml 1 k))) ∧ Hid (Gr w wr)) (fun _ i _ => 12 - (intOf i).toNat)
  case atStart => exact ⟨0, by omega, rfl, by simp, OW, g3⟩
  case round =>
    obtain ⟨k, hk, rfl, rfl, hown, hg⟩ := hrel
    by_cases hlt : k < 12
    · have MKk := hide (MK.out k wr hk)
      have hmu := mu_lt (k := 1) (i := k) (by omega) (by omega)
      have HMS := hide (ml_succ 1 k)
      obtain ⟨y, hy⟩ : ∃ y, mu 1 k = y := ⟨_, rfl⟩
      rw [hy] at MKk hmu HMS
      clear hy
      have hown' := hown.out.alloc (.cells #[.int .u64 (y : Int)] 49)
      go_wp2_with (first | (go_at_call 81; (with_reducible refine MKk.out.mono ?_); rintro r w1 ⟨rfl, rfl⟩) | (at_builtin; refine wpList_append_fits (wr.alloc (.cells #[.int .u64 (y : Int)] 49)) rfl _ _ 22 rfl w.heap.size 49 i0 1 Tryz.underlying22 hi hz1 w.heap.size (n + k) (n + 12) (u64s (xs ++ ml 1 k)) rfl hown' ⟨wr.heap.size, 0, none⟩ 1 1 (u64s [y]) rfl ?f1 ?f2 ?f3 ?f4 ?_))
      case' f1 => rfl
      case' f2 =>
        intro j u hj
        match j, hj with
        | 0, hj => simp [u64s] at hj; subst hj; simp [Addr.add]
      case' f3 => exact one_u64 _
      case' f4 => omega
      intro w5 hown2 hgr2
      have g5 := hide ((hg.out.alloc (.cells #[.int .u64 (y : Int)] 49)).grown hgr2 (fun k h => by injection h with h; omega))
      rw [← u64s_append, List.append_assoc, ← HMS.out] at hown2
      have OW2 := hide hown2
      clear hown2 hown' hgr2 MKk
      go_wp2
      go_roundw
      case rel => exact ⟨k + 1, by omega, by go_num, by rw [Nat.add_assoc], OW2, g5⟩
      case measure => simp only [intOf]; omega
    · have hkn : k = 12 := by omega
      subst hkn
      go_wp2
      go_ret
      exact ⟨_, rfl, hown.out, hg.out⟩
set_option maxRecDepth 20000 in
set_option maxHeartbeats 4000000 in
theorem over60 (base g n cap : Nat) (zs : List Nat) (w : World) (hn : n ≤ 1048576) (ho : w.ownsRow base 49 1 (.slice (some ⟨g, 0, none⟩) (n + 12) cap) (n + 12) (u64s zs)) :
    Calls Tryz.prog 60 #[.slice (some ⟨g, 0, none⟩) n cap] w fun r w' => r = .returned (.tuple #[]) ∧ Gy (some g) w w' := by
  obtain ⟨c1, c2⟩ := ownsU_cap ho
  have MK : Hid (∀ (i : Nat) w1, i ≤ 10000000 → Calls Tryz.prog 81 #[.int .i64 2, .int .i64 (i : Int)] w1 fun r w' => r = .returned (.int .i64 ((mu 2 i : Nat) : Int)) ∧ w1 = w') := fun i w1 h => mark81 2 i w1 (by omega) h
  have HO := hide ho
  clear ho
  go_enter Tryz.func60, Tryz.ntmps60
  go_wp2
  go_loopw [3] (fun i wr => ∃ (k : Nat) (ys : List Nat), k ≤ n + 12 ∧ i = .int .i64 (k : Int) ∧ Hid (wr.ownsRow base 49 1 (.slice (some ⟨g, 0, none⟩) (n + 12) cap) (n + 12) (u64s ys)) ∧ Hid (Gy (some g) w wr)) (fun i _ => n + 12 - (intOf i).toNat)
  case atStart => exact ⟨0, zs, by omega, rfl, HO, Gy.refl _ _⟩
  case round =>
    obtain ⟨k, ys, hk, rfl, hown, hg⟩ := hrel
    by_cases hlt : k < n + 12
    · have hdst := ownsU_cell hown.out k hlt
      have hfz := hown.out.frozenAt k
      have MKk := hide (MK.out k wr (by omega))
      have hmu := mu_lt (k := 2) (i := k) (by omega) (by omega)
      generalize ys.getD k 0 = d1 at *
      generalize mu 2 k = y at *
      have i2 : (k : Int) < (n : Int) + 12 := by omega
      go_wp2_with (go_at_call 81; (with_reducible refine MKk.out.mono ?_); rintro r w1 ⟨rfl, rfl⟩)
      go_roundw
      case rel => exact ⟨k + 1, _, by omega, by go_num, ownsU_set hown.out k y, Gy.set hg.out k _⟩
      case measure => simp only [intOf]; omega
    · have hkn : k = n + 12 := by omega
      subst hkn
      go_wp2
      refine bodyPost_end (v := .tuple #[]) (by simp [results, Tryz.results60, go_sem]) rfl ⟨rfl, hg.out⟩
end Go.Proofs.YtbkkpbffdnhidaaGreatDoor
