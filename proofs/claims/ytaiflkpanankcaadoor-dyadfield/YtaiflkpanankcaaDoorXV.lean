import Derived.Test.YtaiflkpanankcaaDoorXT
namespace Go.Proofs.YtaiflkpanankcaaDoor
open Go.RowKit
set_option linter.unusedVariables false

/-! A STATEMENT 'a, b, c = f(a), f(b), f(c)': every order -/
def Cn (a : Act) (x1 y1 x2 y2 x3 y3 : Value) : Act := (((((a.put (some 41) x1).put (some 42) y1).put (some 43) x2).put (some 44) y2).put (some 45) x3).put (some 46) y3
theorem put_same (a : Act) (d : Nat) (u v : Value) : (a.put (some d) u).put (some d) v = a.put (some d) v := by
  simp [Act.put]
theorem put_sw (a : Act) {d e : Nat} (h : d ≠ e) (u v : Value) : (a.put (some d) u).put (some e) v = (a.put (some e) v).put (some d) u :=
  Act.put_comm a u v (fun x hx hy => h (by injection hx with hx; injection hy with hy; omega))
theorem Cn_1 (a : Act) (x1 y1 x2 y2 x3 y3 v : Value) : (Cn a x1 y1 x2 y2 x3 y3).put (some 41) v = Cn a v y1 x2 y2 x3 y3 := by
  unfold Cn
  rw [put_sw _ (by omega : 46 ≠ 41), put_sw _ (by omega : 45 ≠ 41), put_sw _ (by omega : 44 ≠ 41), put_sw _ (by omega : 43 ≠ 41), put_sw _ (by omega : 42 ≠ 41), put_same]
theorem Cn_2 (a : Act) (x1 y1 x2 y2 x3 y3 v : Value) : (Cn a x1 y1 x2 y2 x3 y3).put (some 42) v = Cn a x1 v x2 y2 x3 y3 := by
  unfold Cn
  rw [put_sw _ (by omega : 46 ≠ 42), put_sw _ (by omega : 45 ≠ 42), put_sw _ (by omega : 44 ≠ 42), put_sw _ (by omega : 43 ≠ 42), put_same]
theorem Cn_3 (a : Act) (x1 y1 x2 y2 x3 y3 v : Value) : (Cn a x1 y1 x2 y2 x3 y3).put (some 43) v = Cn a x1 y1 v y2 x3 y3 := by
  unfold Cn
  rw [put_sw _ (by omega : 46 ≠ 43), put_sw _ (by omega : 45 ≠ 43), put_sw _ (by omega : 44 ≠ 43), put_same]
theorem Cn_4 (a : Act) (x1 y1 x2 y2 x3 y3 v : Value) : (Cn a x1 y1 x2 y2 x3 y3).put (some 44) v = Cn a x1 y1 x2 v x3 y3 := by
  unfold Cn
  rw [put_sw _ (by omega : 46 ≠ 44), put_sw _ (by omega : 45 ≠ 44), put_same]
theorem Cn_5 (a : Act) (x1 y1 x2 y2 x3 y3 v : Value) : (Cn a x1 y1 x2 y2 x3 y3).put (some 45) v = Cn a x1 y1 x2 y2 v y3 := by
  unfold Cn
  rw [put_sw _ (by omega : 46 ≠ 45), put_same]
theorem Cn_6 (a : Act) (x1 y1 x2 y2 x3 y3 v : Value) : (Cn a x1 y1 x2 y2 x3 y3).put (some 46) v = Cn a x1 y1 x2 y2 x3 v := by
  unfold Cn
  rw [put_same]
theorem ev_other (a : Act) {d t : Nat} (h : d ≠ t) (u : Value) : (a.put (some d) u).eval (.tmp t) = a.eval (.tmp t) :=
  Act.eval_put (fun e he hh => h (by cases he; cases hh; rfl))
theorem ev_same (a : Act) {d : Nat} (h : d < a.tmps.size) (u : Value) : (a.put (some d) u).eval (.tmp d) = u := by
  simp [Act.put, Act.eval, h]
theorem size_put (a : Act) (d : Nat) (u : Value) : (a.put (some d) u).tmps.size = a.tmps.size := by
  simp [Act.put]
theorem Cn_low (a : Act) (x1 y1 x2 y2 x3 y3 : Value) (t : Nat) (h : t < 41) : (Cn a x1 y1 x2 y2 x3 y3).eval (.tmp t) = a.eval (.tmp t) := by
  unfold Cn
  rw [ev_other _ (by omega), ev_other _ (by omega), ev_other _ (by omega), ev_other _ (by omega), ev_other _ (by omega), ev_other _ (by omega)]
theorem Cn_at (a : Act) (x1 y1 x2 y2 x3 y3 : Value) (h : 46 < a.tmps.size) : (Cn a x1 y1 x2 y2 x3 y3).eval (.tmp 41) = x1 ∧ (Cn a x1 y1 x2 y2 x3 y3).eval (.tmp 42) = y1 ∧ (Cn a x1 y1 x2 y2 x3 y3).eval (.tmp 43) = x2 ∧ (Cn a x1 y1 x2 y2 x3 y3).eval (.tmp 44) = y2 ∧ (Cn a x1 y1 x2 y2 x3 y3).eval (.tmp 45) = x3 ∧ (Cn a x1 y1 x2 y2 x3 y3).eval (.tmp 46) = y3 := by
  unfold Cn
  refine ⟨?_, ?_, ?_, ?_, ?_, ?_⟩
  · rw [ev_other _ (by omega), ev_other _ (by omega), ev_other _ (by omega), ev_other _ (by omega), ev_other _ (by omega), ev_same _ (by omega)]
  · rw [ev_other _ (by omega), ev_other _ (by omega), ev_other _ (by omega), ev_other _ (by omega), ev_same _ (by rw [size_put]; omega)]
  · rw [ev_other _ (by omega), ev_other _ (by omega), ev_other _ (by omega), ev_same _ (by rw [size_put, size_put]; omega)]
  · rw [ev_other _ (by omega), ev_other _ (by omega), ev_same _ (by rw [size_put, size_put, size_put]; omega)]
  · rw [ev_other _ (by omega), ev_same _ (by rw [size_put, size_put, size_put, size_put]; omega)]
  · rw [ev_same _ (by rw [size_put, size_put, size_put, size_put, size_put]; omega)]
theorem run_load24 (ev : Operand → Value) (o : Oper) (x : Operand) (b : Nat) (v0 v1 v2 : Value) (w : World) (ho : o.op = .load 24 x) (hx : ev x = .pointer (some ⟨b, 0, none⟩)) (hb : w.heap[b]? = some (.cells #[v0, v1, v2] 24)) : (execOp ev o).run Tryd.prog w = .ok (.value (.agg #[v0, v1, v2])) w := by
  obtain ⟨c0, c1, c2⟩ := cells_of hb
  simp [execOp, ho, hx, go_sem, Tryd.isAgg24, Tryd.sizeOf24, c0, c1, c2]
theorem run_store24 (ev : Operand → Value) (o : Oper) (x y : Operand) (b : Nat) (u0 u1 u2 : Value) (s : Bool) (ad : Option Addr) (n c : Nat) (e : Int) (w : World) (ho : o.op = .store 24 x y) (hx : ev x = .pointer (some ⟨b, 0, none⟩)) (hy : ev y = .agg #[.bool s, .slice ad n c, .int .i64 e]) (hb : w.heap[b]? = some (.cells #[u0, u1, u2] 24)) : (execOp ev o).run Tryd.prog w = .ok .skip (S3 w b (.bool s) (.slice ad n c) (.int .i64 e)) := by
  obtain ⟨c0, c1, c2⟩ := cells_of hb
  obtain ⟨d0, d1, d2⟩ := open_of hb
  simp [execOp, ho, hx, hy, go_sem, Tryd.sizeOf24, c0, c1, c2, d0, d1, d2, S3]
theorem run_call8 (ev : Operand → Value) (o : Oper) (x : Operand) (v : Value) (w : World) (ho : o.op = .call { callee := .value (.func 8), args := #[x], argTypes := #[24] }) (hf : ev (.func 8) = .func (.func 8) #[] #[]) (hx : ev x = v) : (execOp ev o).run Tryd.prog w = .ok (.enter 8 #[v]) w := by
  simp [execOp, ho, hx, hf, go_sem]
section
variable {ops : Array Oper} {Q : Exit → Act → World → Prop} {K : Act → World → Prop} {a : Act} {w : World} {i : Nat} {o : Oper}
theorem wanted_none (hg : o.guard = none) (y : Nat → Option Bool) : Region.wanted o y = true := by simp [Region.wanted, hg]
theorem step_load (hi : ops[i]? = some o) (hg : o.guard = none) {x : Operand} {b : Nat} {v0 v1 v2 : Value} (ho : o.op = .load 24 x) (hx : a.eval x = .pointer (some ⟨b, 0, none⟩)) (hb : w.heap[b]? = some (.cells #[v0, v1, v2] 24)) (h : K (a.put o.dst (.agg #[v0, v1, v2])) w) : wpOp Tryd.prog ops Q i K a w := by
  unfold wpOp
  simp only [hi]
  rw [if_pos (by simp [Region.wanted, hg])]
  refine Or.inl ?_
  unfold Oper.wp
  rw [run_load24 a.eval o x b v0 v1 v2 w ho hx hb]
  exact h
theorem step_store (hi : ops[i]? = some o) (hg : o.guard = none) {x y : Operand} {b : Nat} {u0 u1 u2 : Value} {s : Bool} {ad : Option Addr} {n c : Nat} {e : Int} (ho : o.op = .store 24 x y) (hd : o.dst = none) (hx : a.eval x = .pointer (some ⟨b, 0, none⟩)) (hy : a.eval y = .agg #[.bool s, .slice ad n c, .int .i64 e]) (hb : w.heap[b]? = some (.cells #[u0, u1, u2] 24)) (h : K a (S3 w b (.bool s) (.slice ad n c) (.int .i64 e))) : wpOp Tryd.prog ops Q i K a w := by
  unfold wpOp
  simp only [hi]
  rw [if_pos (by simp [Region.wanted, hg])]
  refine Or.inl ?_
  unfold Oper.wp
  rw [run_store24 a.eval o x y b u0 u1 u2 s ad n c e w ho hx hy hb]
  show K (a.put o.dst undef) _
  rw [hd]
  exact h
theorem step_call (hi : ops[i]? = some o) (hg : o.guard = none) {x : Operand} {v : Value} (ho : o.op = .call { callee := .value (.func 8), args := #[x], argTypes := #[24] }) (hx : a.eval x = v) {R : Ending → World → Prop} (hc : Calls Tryd.prog 8 #[v] w R) (h : ∀ r w', R r w' → ∃ u, r = .returned u ∧ K (a.put o.dst u) w') : wpOp Tryd.prog ops Q i K a w := by
  unfold wpOp
  simp only [hi]
  rw [if_pos (by simp [Region.wanted, hg])]
  refine Or.inl ?_
  unfold Oper.wp
  rw [run_call8 a.eval o x v w ho rfl hx]
  refine hc.mono ?_
  intro r w' hR
  obtain ⟨u, rfl, hu⟩ := h r w' hR
  exact hu
end
theorem S3_block {w : World} {b : Nat} {u0 u1 u2 v0 v1 v2 : Value} (h : w.heap[b]? = some (.cells #[u0, u1, u2] 24)) : (S3 w b v0 v1 v2).heap[b]? = some (.cells #[v0, v1, v2] 24) := by
  have key : ∀ (x : World) (k : Nat) (v : Value) (vs : Array Value), x.heap[b]? = some (.cells vs 24) → (x.setCell ⟨b, k, none⟩ v).heap[b]? = some (.cells (vs.setIfInBounds k v) 24) := by
    intro x k v vs hx
    show (x.heap.modify b _)[b]? = _
    rw [Array.getElem?_modify, if_pos rfl, hx]
    rfl
  have h1 := key w 0 v0 _ h
  have h2 := key _ 1 v1 _ h1
  have h3 := key _ 2 v2 _ h2
  unfold S3
  simpa using h3
end Go.Proofs.YtaiflkpanankcaaDoor
