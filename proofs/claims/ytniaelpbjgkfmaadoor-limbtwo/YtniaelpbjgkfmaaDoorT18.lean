import Derived.Test.YtniaelpbjgkfmaaDoorT09
import Derived.Test.YtniaelpbjgkfmaaDoorT17
namespace Go.Proofs.YtniaelpbjgkfmaaDoor
open Go.RowKit
set_option linter.unusedVariables false
set_option linter.unusedSimpArgs false

/-! the region 'la, lb := LentInt(a), LentInt(b)' -/
/-- a number that is lent: the same limbs, marks behind them, in new memory -/
def VL (B : Nat) (sg : Bool) (n : Nat) (xs : List Nat) (v : Value) (w : World) : Prop := ∃ g, v = .agg #[.bool sg, .slice (some ⟨g, 0, none⟩) n (n + 12)] ∧ w.ownsRow B 26 1 (.slice (some ⟨g, 0, none⟩) (n + 12) (n + 12)) (n + 12) (u64s (xs ++ ml 1 12))
theorem VL.gr {B : Nat} {sg : Bool} {n : Nat} {xs : List Nat} {v : Value} {w w' : World} (h : VL B sg n xs v w) (g : Gr w w') : VL B sg n xs v w' := by
  obtain ⟨b, h1, h2⟩ := h
  exact ⟨b, h1, g.owns h2⟩
theorem owns_apI {w : World} {B n : Nat} {v : Value} {zs : List Value} (h : w.ownsRow B 26 1 v n zs) {b o : Nat} {cs : Array Value} (hb : w.heap[b]? = some (.cells cs 24)) (u : Value) : (w.setCell ⟨b, o, none⟩ u).ownsRow B 26 1 v n zs := by
  refine ⟨h.1, ?_⟩
  rcases h.2 with h2 | ⟨b2, cap, cur, rfl, h3, hg, h4⟩
  · exact Or.inl h2
  · have hne : b2 ≠ b := by
      rintro rfl
      rw [hb] at hg
      injection hg with hg
      injection hg with _ hg
      exact absurd hg (by decide)
    exact Or.inr ⟨b2, cap, cur, rfl, h3, by rw [Below.heap_setCell _ _ _ _ hne]; exact hg, h4⟩
theorem VL.set2 {B : Nat} {sg : Bool} {n : Nat} {xs : List Nat} {v : Value} {w : World} (h : VL B sg n xs v w) {g : Nat} {cs : Array Value} (hb : w.heap[g]? = some (.cells cs 24)) (u0 u1 : Value) : VL B sg n xs v ((w.setCell ⟨g, 0, none⟩ u0).setCell ⟨g, 1, none⟩ u1) := by
  obtain ⟨b, h1, h2⟩ := h
  have hb2 : ∃ cs', (w.setCell ⟨g, 0, none⟩ u0).heap[g]? = some (.cells cs' 24) := by
    simp [World.setCell, Array.getElem?_modify, hb]
  obtain ⟨cs', hb2⟩ := hb2
  exact ⟨b, h1, owns_apI (owns_apI h2 hb u0) hb2 u1⟩
theorem run_ld1 {a : Act} {w : World} {l p ty : Nat} {ps : String} {af : Array Edge} {q : Nat} {v0 v1 : Value} (hp : a.tmps[p]? = some (.pointer (some ⟨q, 0, none⟩))) (c0 : w.cell? ⟨q, 0, none⟩ = some v0) (c1 : w.cell? ⟨q, 1, none⟩ = some v1) :
    (execOp a.eval ({ dst := some l, op := Op.load 24 (Operand.tmp p), type := ty, pos := ps, after := af, guard := none } : Oper)).run Tryd.prog w = .ok (.value (.agg #[v0, v1])) w := by
  have e := eval_tmp hp
  simp only [execOp, e]
  first | (go_simp; done) | (go_simp; with_reducible rfl)
theorem run_cl1 {a : Act} {w : World} {l p ty : Nat} {at' : Array TypeId} {ps : String} {af : Array Edge} {v : Value} (hp : a.tmps[p]? = some v) :
    (execOp a.eval ({ dst := some l, op := Op.call { callee := Callee.value (Operand.func 23), args := #[Operand.tmp p], argTypes := at' }, type := ty, pos := ps, after := af, guard := none } : Oper)).run Tryd.prog w = .ok (.enter 23 #[v]) w := by
  have e := eval_tmp hp
  simp only [execOp, e]
  first | (go_simp; done) | (go_simp; with_reducible rfl)
/-- the region's operations: k loads, k calls, k new boxes, k stores -/
structure TupL (k P0 A0 D : Nat) (ops : Array Oper) : Prop where
  size : ops.size = 4 * k
  back : ∀ (i : Nat) (o : Oper), ops[i]? = some o → ∀ e ∈ o.after, e.on < i
  ld : ∀ i, i < k → ∃ ty ps af, ops[2 * i]? = some ({ dst := some (D + 2 * i), op := Op.load 24 (Operand.tmp (P0 + i)), type := ty, pos := ps, after := af, guard := none } : Oper)
  cl : ∀ i, i < k → ∃ at' ty ps af, ops[2 * i + 1]? = some ({ dst := some (D + 2 * i + 1), op := Op.call { callee := Callee.value (Operand.func 23), args := #[Operand.tmp (D + 2 * i)], argTypes := at' }, type := ty, pos := ps, after := af, guard := none } : Oper) ∧ ∃ e ∈ af, e.on = 2 * i ∧ Region.binds .any e = true
  al : ∀ i, i < k → ∃ ty ps af, ops[2 * k + i]? = some ({ dst := some (A0 + i), op := Op.alloc 24, type := ty, pos := ps, after := af, guard := none } : Oper)
  st : ∀ i, i < k → ∃ ty ps af, ops[3 * k + i]? = some ({ dst := none, op := Op.store 24 (Operand.tmp (A0 + i)) (Operand.tmp (D + 2 * i + 1)), type := ty, pos := ps, after := af, guard := none } : Oper) ∧ (∃ e ∈ af, e.on = 2 * k + i ∧ Region.binds .any e = true) ∧ ∃ e ∈ af, e.on = 2 * i + 1 ∧ Region.binds .any e = true
structure InvL (k P0 A0 D : Nat) (sg : Nat → Bool) (n : Nat → Nat) (xs : Nat → List Nat) (pv : Nat → Value) (T : Array Value) (w0 : World) (listed : Array Bool) (a : Act) (w : World) : Prop where
  len : listed.size = 4 * k
  dfr : a.defers = []
  size : a.tmps.size = T.size
  off : ∀ j, (∀ i, i < k → j ≠ D + 2 * i ∧ j ≠ D + 2 * i + 1 ∧ j ≠ A0 + i) → a.tmps[j]? = T[j]?
  gr : Gr w0 w
  ld : ∀ i, i < k → listed.getD (2 * i) false = true → a.tmps[D + 2 * i]? = some (pv i)
  cl : ∀ i, i < k → listed.getD (2 * i + 1) false = true → ∃ v, a.tmps[D + 2 * i + 1]? = some v ∧ VL w0.heap.size (sg i) (n i) (xs i) v w
  al : ∀ i, i < k → listed.getD (2 * k + i) false = true → ∃ g u0 u1, a.tmps[A0 + i]? = some (.pointer (some ⟨g, 0, none⟩)) ∧ w0.heap.size ≤ g ∧ w.heap[g]? = some (.cells #[u0, u1] 24) ∧ (listed.getD (3 * k + i) false = true → a.tmps[D + 2 * i + 1]? = some (.agg #[u0, u1]))
  dj : ∀ i j, i < k → j < k → i ≠ j → listed.getD (2 * k + i) false = true → listed.getD (2 * k + j) false = true → a.tmps[A0 + i]? ≠ a.tmps[A0 + j]?
  late : ∀ i, i < k → listed.getD (3 * k + i) false = true → listed.getD (2 * i + 1) false = true ∧ listed.getD (2 * k + i) false = true
section
variable {k P0 A0 D : Nat} {ops : Array Oper} {sg : Nat → Bool} {n : Nat → Nat} {xs : Nat → List Nat} {pv : Nat → Value} {T : Array Value} {w0 : World} {listed : Array Bool} {a : Act} {w : World}
set_option maxHeartbeats 1600000 in
theorem InvL.step (ht : TupL k P0 A0 D ops) (s1 : P0 + k ≤ A0) (s2 : A0 + k ≤ D) (s3 : D + 2 * k ≤ T.size) {ad : Nat → Option Addr} {cap p : Nat → Nat} (hpv : ∀ i, pv i = .agg #[.bool (sg i), .slice (ad i) (n i) (cap i)])
    (hp : ∀ i, i < k → T[P0 + i]? = some (.pointer (some ⟨p i, 0, none⟩))) (hb : ∀ i, i < k → w0.heap[p i]? = some (.cells #[.bool (sg i), .slice (ad i) (n i) (cap i)] 24))
    (HC : Hid (∀ i, i < k → ∀ w1, Gr w0 w1 → Calls Tryd.prog 23 #[pv i] w1 fun e w' => ∃ v, e = .returned v ∧ VL w0.heap.size (sg i) (n i) (xs i) v w' ∧ Gr w1 w'))
    (Q : Exit → Act → World → Prop) (i : Nat) (h : InvL k P0 A0 D sg n xs pv T w0 listed a w) (hi : i ∈ Region.ready .any ops listed) : wpOp Tryd.prog ops Q i (InvL k P0 A0 D sg n xs pv T w0 (listed.setIfInBounds i true)) a w := by
  obtain ⟨hu, o, ho, hall⟩ := mem_ready.1 hi
  have hlt : i < 4 * k := by
    rw [← ht.size]
    exact (Array.getElem?_eq_some_iff.1 ho).1
  have hsz := h.size
  rcases (show (∃ j, j < k ∧ i = 2 * j) ∨ (∃ j, j < k ∧ i = 2 * j + 1) ∨ (∃ j, j < k ∧ i = 2 * k + j) ∨ (∃ j, j < k ∧ i = 3 * k + j) by
    by_cases c1 : i < 2 * k
    · rcases Nat.mod_two_eq_zero_or_one i with e | e
      · exact Or.inl ⟨i / 2, by omega, by omega⟩
      · exact Or.inr (Or.inl ⟨i / 2, by omega, by omega⟩)
    · by_cases c2 : i < 3 * k
      · exact Or.inr (Or.inr (Or.inl ⟨i - 2 * k, by omega, by omega⟩))
      · exact Or.inr (Or.inr (Or.inr ⟨i - 3 * k, by omega, by omega⟩))) with ⟨j, hj, rfl⟩ | ⟨j, hj, rfl⟩ | ⟨j, hj, rfl⟩ | ⟨j, hj, rfl⟩
  · -- a load
    obtain ⟨ty, ps, af, e⟩ := ht.ld j hj
    have hb' := keepO h.gr (hb j hj)
    have c := bx2 hb'
    refine wpOp_value e rfl (run_ld1 ((h.off (P0 + j) (fun q hq => by omega)).trans (hp j hj)) c.1 c.2) ?_
    rw [← hpv j]
    refine ⟨by simp [h.len], h.dfr, by simp [Act.put, h.size], fun q hq => ?_, h.gr, fun q hq hl => ?_, fun q hq hl => ?_, fun q hq hl => ?_, fun q r hq hr hne h1 h2 => ?_, fun q hq hl => ?_⟩
    · rw [put_get (hq j hj).1]; exact h.off q hq
    · by_cases e2 : q = j
      · subst e2; exact put_at (by omega)
      · rw [put_get (by omega)]
        exact h.ld q hq ((lset hl).resolve_left (by omega))
    · rw [put_get (by omega)]
      exact h.cl q hq ((lset hl).resolve_left (by omega))
    · obtain ⟨g, u0, u1, x1, x2, x3, x4⟩ := h.al q hq ((lset hl).resolve_left (by omega))
      refine ⟨g, u0, u1, by rw [put_get (by omega)]; exact x1, x2, x3, fun hl2 => ?_⟩
      rw [put_get (by omega)]
      exact x4 ((lset hl2).resolve_left (by omega))
    · rw [put_get (by omega), put_get (by omega)]
      exact h.dj q r hq hr hne ((lset h1).resolve_left (by omega)) ((lset h2).resolve_left (by omega))
    · have l3 := (lset hl).resolve_left (by omega)
      exact ⟨lkeep (h.late q hq l3).1, lkeep (h.late q hq l3).2⟩
  · -- a call
    obtain ⟨at', ty, ps, af, e, ed, he, hon, hbd⟩ := ht.cl j hj
    obtain rfl : _ = o := Option.some.inj (e.symm.trans ho)
    have l0 : listed.getD (2 * j) false = true := by rw [← hon]; exact hall ed he hbd
    refine wpOp_call e rfl (run_cl1 (h.ld j hj l0)) ((HC.out j hj w h.gr).mono ?_)
    rintro r w' ⟨v, rfl, hv, g⟩
    refine ⟨v, rfl, by simp [h.len], h.dfr, by simp [Act.put, h.size], fun q hq => ?_, h.gr.trans g, fun q hq hl => ?_, fun q hq hl => ?_, fun q hq hl => ?_, fun q r hq hr hne h1 h2 => ?_, fun q hq hl => ?_⟩
    · rw [put_get (hq j hj).2.1]; exact h.off q hq
    · rw [put_get (by omega)]
      exact h.ld q hq ((lset hl).resolve_left (by omega))
    · by_cases e2 : q = j
      · subst e2; exact ⟨v, put_at (by omega), hv⟩
      · rw [put_get (by omega)]
        obtain ⟨v2, y1, y2⟩ := h.cl q hq ((lset hl).resolve_left (by omega))
        exact ⟨v2, y1, y2.gr g⟩
    · obtain ⟨b, u0, u1, x1, x2, x3, x4⟩ := h.al q hq ((lset hl).resolve_left (by omega))
      refine ⟨b, u0, u1, by rw [put_get (by omega)]; exact x1, x2, keepO g x3, fun hl2 => ?_⟩
      have l3 := (lset hl2).resolve_left (by omega)
      by_cases e2 : q = j
      · subst e2
        exact absurd hu (listed_not (h.late q hq l3).1)
      · rw [put_get (by omega)]
        exact x4 l3
    · rw [put_get (by omega), put_get (by omega)]
      exact h.dj q r hq hr hne ((lset h1).resolve_left (by omega)) ((lset h2).resolve_left (by omega))
    · have l3 := (lset hl).resolve_left (by omega)
      exact ⟨lkeep (h.late q hq l3).1, lkeep (h.late q hq l3).2⟩
  · -- a new box
    obtain ⟨ty, ps, af, e⟩ := ht.al j hj
    have g : Gr w (w.alloc (.cells #[.bool false, .slice none 0 0] 24)) := (Gr.refl w).alloc _
    have ptr : ∀ q, q < k → q ≠ j → listed.getD (2 * k + q) false = true → some (Value.pointer (some ⟨w.heap.size, 0, none⟩)) ≠ a.tmps[A0 + q]? := by
      intro q hq hne hl he
      obtain ⟨b, u0, u1, x1, x2, x3, x4⟩ := h.al q hq hl
      rw [x1] at he
      have hlt := lt_of_get2 x3
      injection he with he
      injection he with he
      injection he with he
      injection he with he
      omega
    refine wpOp_value e rfl run_al ?_
    refine ⟨by simp [h.len], h.dfr, by simp [Act.put, h.size], fun q hq => ?_, h.gr.trans g, fun q hq hl => ?_, fun q hq hl => ?_, fun q hq hl => ?_, fun q r hq hr hne h1 h2 => ?_, fun q hq hl => ?_⟩
    · rw [put_get (hq j hj).2.2]; exact h.off q hq
    · rw [put_get (by omega)]
      exact h.ld q hq ((lset hl).resolve_left (by omega))
    · rw [put_get (by omega)]
      obtain ⟨v2, y1, y2⟩ := h.cl q hq ((lset hl).resolve_left (by omega))
      exact ⟨v2, y1, y2.gr g⟩
    · by_cases e2 : q = j
      · subst e2
        refine ⟨w.heap.size, _, _, put_at (by omega), h.gr.size, blk1 w _, fun hl2 => ?_⟩
        exact absurd hu (listed_not (h.late q hq ((lset hl2).resolve_left (by omega))).2)
      · obtain ⟨b, u0, u1, x1, x2, x3, x4⟩ := h.al q hq ((lset hl).resolve_left (by omega))
        refine ⟨b, u0, u1, by rw [put_get (by omega)]; exact x1, x2, keepO g x3, fun hl2 => ?_⟩
        rw [put_get (by omega)]
        exact x4 ((lset hl2).resolve_left (by omega))
    · by_cases e1 : q = j
      · subst e1
        rw [put_at (by omega), put_get (by omega)]
        exact ptr r hr (Ne.symm hne) ((lset h2).resolve_left (by omega))
      · by_cases e2 : r = j
        · subst e2
          rw [put_at (by omega), put_get (by omega)]
          exact Ne.symm (ptr q hq hne ((lset h1).resolve_left (by omega)))
        · rw [put_get (by omega), put_get (by omega)]
          exact h.dj q r hq hr hne ((lset h1).resolve_left (by omega)) ((lset h2).resolve_left (by omega))
    · have l3 := (lset hl).resolve_left (by omega)
      exact ⟨lkeep (h.late q hq l3).1, lkeep (h.late q hq l3).2⟩
  · -- a store
    obtain ⟨ty, ps, af, e, ⟨ed, he, hon, hbd⟩, ed2, he2, hon2, hbd2⟩ := ht.st j hj
    obtain rfl : _ = o := Option.some.inj (e.symm.trans ho)
    have l1 : listed.getD (2 * k + j) false = true := by rw [← hon]; exact hall ed he hbd
    have l2 : listed.getD (2 * j + 1) false = true := by rw [← hon2]; exact hall ed2 he2 hbd2
    obtain ⟨b, u0, u1, x1, x2, x3, x4⟩ := h.al j hj l1
    obtain ⟨v, y1, y2⟩ := h.cl j hj l2
    obtain ⟨gg, rfl, z2⟩ := id y2
    refine wpOp_skip e rfl (run_st x1 y1 x3) ?_
    have hput : a.put none undef = a := rfl
    show InvL k P0 A0 D sg n xs pv T w0 _ (a.put none undef) _
    rw [hput]
    refine ⟨by simp [h.len], h.dfr, h.size, h.off, (h.gr.setCell (p := ⟨b, 0, none⟩) x2 _).setCell (p := ⟨b, 1, none⟩) x2 _, fun q hq hl => ?_, fun q hq hl => ?_, fun q hq hl => ?_, fun q r hq hr hne h1 h2 => ?_, fun q hq hl => ?_⟩
    · exact h.ld q hq ((lset hl).resolve_left (by omega))
    · obtain ⟨v2, w1, w2⟩ := h.cl q hq ((lset hl).resolve_left (by omega))
      exact ⟨v2, w1, w2.set2 x3 _ _⟩
    · by_cases e2 : q = j
      · subst e2
        exact ⟨b, _, _, x1, x2, set2_block x3 _ _, fun _ => y1⟩
      · have lq := (lset hl).resolve_left (by omega)
        obtain ⟨b2, p0, p1, q1, q2, q3, q4⟩ := h.al q hq lq
        have hbb : b2 ≠ b := fun ee => h.dj q j hq hj e2 lq l1 (by rw [q1, x1, ee])
        refine ⟨b2, p0, p1, q1, q2, by rw [set2_other hbb]; exact q3, fun hl2 => ?_⟩
        exact q4 ((lset hl2).resolve_left (by omega))
    · exact h.dj q r hq hr hne ((lset h1).resolve_left (by omega)) ((lset h2).resolve_left (by omega))
    · rcases lset hl with e3 | l3
      · obtain rfl : q = j := by omega
        exact ⟨lkeep l2, lkeep l1⟩
      · exact ⟨lkeep (h.late q hq l3).1, lkeep (h.late q hq l3).2⟩
end
/-- what the region leaves: k boxes, each with a right whole number of at most m limbs, in new memory -/
def TupFinL (k A0 D : Nat) (sg : Nat → Bool) (n : Nat → Nat) (xs : Nat → List Nat) (pv : Nat → Value) (w0 : World) (f : Nat → Value) (w : World) : Prop :=
  Gr w0 w ∧ ∀ i, i < k → f (D + 2 * i) = pv i ∧ ∃ g b, f (A0 + i) = .pointer (some ⟨g, 0, none⟩) ∧ f (D + 2 * i + 1) = .agg #[.bool (sg i), .slice (some ⟨b, 0, none⟩) (n i) (n i + 12)] ∧ w0.heap.size ≤ g ∧ w.heap[g]? = some (.cells #[.bool (sg i), .slice (some ⟨b, 0, none⟩) (n i) (n i + 12)] 24) ∧ w.ownsRow w0.heap.size 26 1 (.slice (some ⟨b, 0, none⟩) (n i + 12) (n i + 12)) (n i + 12) (u64s (xs i ++ ml 1 12))
theorem tuple_lent {k P0 A0 D id : Nat} {ops : Array Oper} {sg : Nat → Bool} {n : Nat → Nat} {xs : Nat → List Nat} {pv : Nat → Value} {T : Array Value} {w0 : World} (ht : TupL k P0 A0 D ops) (s1 : P0 + k ≤ A0) (s2 : A0 + k ≤ D) (s3 : D + 2 * k ≤ T.size) {ad : Nat → Option Addr} {cap p : Nat → Nat} (hpv : ∀ i, pv i = .agg #[.bool (sg i), .slice (ad i) (n i) (cap i)])
    (hp : ∀ i, i < k → T[P0 + i]? = some (.pointer (some ⟨p i, 0, none⟩))) (hb : ∀ i, i < k → w0.heap[p i]? = some (.cells #[.bool (sg i), .slice (ad i) (n i) (cap i)] 24))
    (HC : Hid (∀ i, i < k → ∀ w1, Gr w0 w1 → Calls Tryd.prog 23 #[pv i] w1 fun e w' => ∃ v, e = .returned v ∧ VL w0.heap.size (sg i) (n i) (xs i) v w' ∧ Gr w1 w'))
    (Q : Exit → Act → World → Prop) (hQ : ∀ (f : Nat → Value) (w : World), TupFinL k A0 D sg n xs pv w0 f w → Q .normal ⟨(tslots k A0 D).foldl (fun t x => t.setIfInBounds x (f x)) T, []⟩ w) :
    Code.wp Tryd.prog (Code.region id ops true) Q ⟨T, []⟩ w0 := by
  have hne : ∀ i, (Array.replicate ops.size false).getD i false = true → False := by
    intro i h
    simp only [Array.getD_eq_getD_getElem?, Array.getElem?_replicate] at h
    split at h <;> simp at h
  refine wp_region_any (by kernel_rfl) (any_inv (InvL k P0 A0 D sg n xs pv T w0) (fun l a w i h hi => InvL.step ht s1 s2 s3 hpv hp hb HC Q i h hi) (fun l a w h hr => ?_) _ _ _ _ (by simp) ?_)
  · have hall := all_listed ht.back l (by rw [h.len, ht.size]) hr
    rw [ht.size] at hall
    obtain ⟨tm, df⟩ := a
    have hd : df = [] := h.dfr
    subst hd
    have hsz : tm.size = T.size := h.size
    have key : tm = (tslots k A0 D).foldl (fun t x => t.setIfInBounds x ((fun j => (tm[j]?).getD undef) x)) T := by
      refine Array.ext_getElem? fun j => ?_
      rw [fold_get (fun j => (tm[j]?).getD undef) _ _ (fun j hj => by rcases mem_tslots.1 hj with ⟨i, hi, rfl⟩ | ⟨i, hi, rfl⟩ <;> omega)]
      by_cases c : j ∈ tslots k A0 D
      · rw [if_pos c]
        have hjs : j < tm.size := by rcases mem_tslots.1 c with ⟨i, hi, rfl⟩ | ⟨i, hi, rfl⟩ <;> omega
        simp [hjs]
      · rw [if_neg c]
        refine h.off j fun i hi => ?_
        refine ⟨fun e => c (mem_tslots.2 (Or.inl ⟨2 * i, by omega, by omega⟩)), fun e => c (mem_tslots.2 (Or.inl ⟨2 * i + 1, by omega, by omega⟩)), fun e => c (mem_tslots.2 (Or.inr ⟨i, hi, by omega⟩))⟩
    have FIN := hQ (fun j => (tm[j]?).getD undef) w ⟨h.gr, fun i hi => ?_⟩
    · rw [← key] at FIN
      exact FIN
    · have e1 := h.ld i hi (hall _ (by omega))
      obtain ⟨v, e2, b, rfl, z2⟩ := h.cl i hi (hall _ (by omega))
      obtain ⟨g, u0, u1, e3, x2, x3, x4⟩ := h.al i hi (hall _ (by omega))
      have e4 := x4 (hall _ (by omega))
      have e5 := e2.symm.trans e4
      injection e5 with e5
      injection e5 with e5
      have e6 : u0 = .bool (sg i) ∧ u1 = .slice (some ⟨b, 0, none⟩) (n i) (n i + 12) := by
        have := congrArg Array.toList e5
        simp at this
        exact ⟨this.1.symm, this.2.symm⟩
      obtain ⟨rfl, rfl⟩ := e6
      have e1' : tm[D + 2 * i]? = some (pv i) := e1
      have e2' : tm[D + 2 * i + 1]? = some (.agg #[.bool (sg i), .slice (some ⟨b, 0, none⟩) (n i) (n i + 12)]) := e2
      have e3' : tm[A0 + i]? = some (.pointer (some ⟨g, 0, none⟩)) := e3
      exact ⟨by simp only [e1', Option.getD_some], g, b, by simp only [e3', Option.getD_some], by simp only [e2', Option.getD_some], x2, x3, z2⟩
  · refine ⟨by simp [ht.size], rfl, rfl, fun _ _ => rfl, (Gr.refl w0).drew, fun i hi hl => (hne _ hl).elim, fun i hi hl => (hne _ hl).elim, fun i hi hl => (hne _ hl).elim, fun i j hi hj hn h1 h2 => (hne _ h1).elim, fun i hi hl => (hne _ hl).elim⟩
end Go.Proofs.YtniaelpbjgkfmaaDoor
