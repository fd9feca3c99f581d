import Derived.Test.YtnmdnhmfmahjaaaGreatDoorM41
import Derived.Deep.RegionHeld3
import Derived.Orders
namespace Go.Proofs.YtnmdnhmfmahjaaaGreatDoor
open Go.RowKit
set_option linter.unusedVariables false
set_option linter.unusedSimpArgs false

/-! A region that draws its order, by one invariant: it is shown behind each operation that may come up, whatever came up before. -/
theorem any_inv {P : Program} {ops : Array Oper} {Q : Exit → Act → World → Prop} (Inv : Array Bool → Act → World → Prop)
    (step : ∀ listed a w i, Inv listed a w → i ∈ Region.ready .any ops listed → wpOp P ops Q i (Inv (listed.setIfInBounds i true)) a w)
    (fin : ∀ listed a w, Inv listed a w → Region.ready .any ops listed = [] → Q .normal a w) :
    ∀ fuel listed a w, listed.toList.count false ≤ fuel → Inv listed a w → wpAny P .any ops Q fuel listed a w := by
  intro fuel
  induction fuel with
  | zero =>
    intro listed a w hc hI
    have hr : Region.ready .any ops listed = [] := by
      refine List.eq_nil_iff_forall_not_mem.2 fun i hi => ?_
      have h1 := (mem_ready.1 hi).1
      have h2 : listed.toList.count false = 0 := by omega
      rw [List.count_eq_zero] at h2
      rcases Nat.lt_or_ge i listed.size with h' | h'
      · simp [h'] at h1
        exact h2 (h1 ▸ Array.getElem_mem_toList h')
      · simp [Array.getD, Nat.not_lt.2 h'] at h1
    exact ⟨hr, fin _ _ _ hI hr⟩
  | succ fuel ih =>
    intro listed a w hc hI
    refine ⟨fun h => fin _ _ _ hI h, fun i hi => wpOp_mono (fun a' w' h' => ih _ _ _ ?_ h') (step _ _ _ _ hI hi)⟩
    have h1 := (mem_ready.1 hi).1
    rcases Nat.lt_or_ge i listed.size with h' | h'
    · simp [h'] at h1
      have h2 : false ∈ listed.toList := h1 ▸ Array.getElem_mem_toList h'
      have h3 := List.count_pos_iff.2 h2
      have h5 : i < listed.toList.length := by simpa using h'
      have h6 : listed.toList[i] = false := by simpa using h1
      have h4 := List.count_set (a := true) (b := false) (l := listed.toList) (i := i) h5
      rw [h6] at h4
      rw [Array.toList_setIfInBounds, h4, if_pos (by rfl), if_neg (by simp)]
      omega
    · simp [Array.getD, Nat.not_lt.2 h'] at h1
theorem wpOp_value {P : Program} {ops : Array Oper} {Q : Exit → Act → World → Prop} {i : Nat} {o : Oper} {K : Act → World → Prop} {a : Act} {w w' : World} {v : Value} (hi : ops[i]? = some o) (hg : o.guard = none)
    (hr : (execOp a.eval o).run P w = .ok (.value v) w') (h : K (a.put o.dst v) w') : wpOp P ops Q i K a w := by
  have hw : Region.wanted o (yielded ops a.tmps) = true := by simp [Region.wanted, hg]
  unfold Go.wpOp
  simp only [hi, hw, if_true, Oper.wp, hr, Oper.upon]
  exact .inl h
theorem wpOp_call {P : Program} {ops : Array Oper} {Q : Exit → Act → World → Prop} {i : Nat} {o : Oper} {K : Act → World → Prop} {a : Act} {w : World} {f : FuncId} {args : Array Value} (hi : ops[i]? = some o) (hg : o.guard = none)
    (hr : (execOp a.eval o).run P w = .ok (.enter f args) w) (h : Calls P f args w fun e w' => ∃ v, e = .returned v ∧ K (a.put o.dst v) w') : wpOp P ops Q i K a w := by
  have hw : Region.wanted o (yielded ops a.tmps) = true := by simp [Region.wanted, hg]
  unfold Go.wpOp
  simp only [hi, hw, if_true, Oper.wp, hr, Oper.upon]
  refine .inl (h.mono ?_)
  rintro e w' ⟨v, rfl, hk⟩
  exact hk

def ops30 : Array Oper := #[{ dst := some 248, op := Op.call { callee := Callee.value (Operand.func 20), args := #[Operand.const (Value.bool false), Operand.const (Value.int IntKind.u64 2), Operand.const (Value.int IntKind.i64 0)], argTypes := #[4, 41, 3] }, type := 24, pos := "law.go:174", after := #[], guard := none }, { dst := some 249, op := Op.build 24 #[(0, Operand.const (Value.bool true))], type := 24, pos := "law.go:174", after := #[], guard := none }, { dst := some 250, op := Op.build 24 #[(2, Operand.const (Value.int IntKind.i64 1))], type := 24, pos := "law.go:174", after := #[], guard := none }, { dst := some 251, op := Op.buildSlice 22 2 #[(0, Operand.const (Value.int IntKind.u64 1)), (1, Operand.const (Value.int IntKind.u64 0))], type := 22, pos := "law.go:174", after := #[], guard := none }, { dst := some 252, op := Op.build 24 #[(1, Operand.tmp 251)], type := 24, pos := "law.go:174", after := #[{ on := 3, ground := Ground.data }], guard := none }, { dst := some 253, op := Op.makeSlice 22 (Operand.const (Value.int IntKind.i64 4097)) (Operand.const (Value.int IntKind.i64 4097)), type := 22, pos := "law.go:174", after := #[], guard := none }, { dst := some 254, op := Op.build 24 #[(1, Operand.tmp 253)], type := 24, pos := "law.go:174", after := #[{ on := 5, ground := Ground.data }], guard := none }, { dst := some 255, op := Op.call { callee := Callee.value (Operand.func 20), args := #[Operand.const (Value.bool false), Operand.const (Value.int IntKind.u64 1), Operand.const (Value.int IntKind.i64 1048577)], argTypes := #[4, 41, 3] }, type := 24, pos := "law.go:174", after := #[{ on := 0, ground := Ground.chain }], guard := none }, { dst := some 256, op := Op.call { callee := Callee.value (Operand.func 20), args := #[Operand.const (Value.bool false), Operand.const (Value.int IntKind.u64 1), Operand.const (Value.int IntKind.i64 (-1048577))], argTypes := #[4, 41, 3] }, type := 24, pos := "law.go:174", after := #[{ on := 7, ground := Ground.chain }], guard := none }, { dst := some 257, op := Op.buildSlice 22 2 #[(0, Operand.const (Value.int IntKind.u64 0)), (1, Operand.const (Value.int IntKind.u64 1))], type := 22, pos := "law.go:174", after := #[], guard := none }, { dst := some 258, op := Op.build 24 #[(1, Operand.tmp 257)], type := 24, pos := "law.go:174", after := #[{ on := 9, ground := Ground.data }], guard := none }, { dst := some 259, op := Op.buildSlice 45 8 #[(0, Operand.tmp 248), (1, Operand.tmp 249), (2, Operand.tmp 250), (3, Operand.tmp 252), (4, Operand.tmp 254), (5, Operand.tmp 255), (6, Operand.tmp 256), (7, Operand.tmp 258)], type := 45, pos := "law.go:174", after := #[{ on := 0, ground := Ground.data }, { on := 1, ground := Ground.data }, { on := 2, ground := Ground.data }, { on := 4, ground := Ground.data }, { on := 6, ground := Ground.data }, { on := 7, ground := Ground.data }, { on := 8, ground := Ground.data }, { on := 10, ground := Ground.data }], guard := none }, { dst := some 40, op := Op.assign (Operand.tmp 259), type := 45, pos := "law.go:174", after := #[{ on := 11, ground := Ground.data }, { on := 8, ground := Ground.chain }, { on := 0, ground := Ground.phase }, { on := 1, ground := Ground.phase }, { on := 2, ground := Ground.phase }, { on := 3, ground := Ground.phase }, { on := 4, ground := Ground.phase }, { on := 5, ground := Ground.phase }, { on := 6, ground := Ground.phase }, { on := 7, ground := Ground.phase }, { on := 8, ground := Ground.phase }, { on := 9, ground := Ground.phase }, { on := 10, ground := Ground.phase }, { on := 11, ground := Ground.phase }], guard := none }]
/-- a dyad that is not right -/
def OddV (v : Value) (w : World) : Prop := ∃ s ad n cap e, v = .agg #[.bool s, .slice ad n cap, .int .i64 e] ∧ Odd4 w s ad n cap e
/-- limbs of no right dyad -/
def OddS (v : Value) (w : World) : Prop := ∃ ad n cap, v = .slice ad n cap ∧ Odd4 w false ad n cap 0
/-- a row of eight dyads, none of which is right -/
def OddR (v : Value) (w : World) : Prop := ∃ b, v = .slice (some ⟨b, 0, none⟩) 8 8 ∧ ∀ i, i < 8 → ∃ s ad n cap e, w.cell? ⟨b, i * 3 + 0, none⟩ = some (.bool s) ∧ w.cell? ⟨b, i * 3 + 1, none⟩ = some (.slice ad n cap) ∧ w.cell? ⟨b, i * 3 + 2, none⟩ = some (.int .i64 e) ∧ Odd4 w s ad n cap e
theorem OddV.gr {v : Value} {w w' : World} (h : OddV v w) (g : Gr w w') : OddV v w' := by
  obtain ⟨s, ad, n, cap, e, h1, h2⟩ := h
  exact ⟨s, ad, n, cap, e, h1, h2.gr g⟩
theorem OddS.gr {v : Value} {w w' : World} (h : OddS v w) (g : Gr w w') : OddS v w' := by
  obtain ⟨ad, n, cap, h1, h2⟩ := h
  exact ⟨ad, n, cap, h1, h2.gr g⟩
theorem OddR.gr {v : Value} {w w' : World} (h : OddR v w) (g : Gr w w') : OddR v w' := by
  obtain ⟨b, h1, h2⟩ := h
  refine ⟨b, h1, fun i hi => ?_⟩
  obtain ⟨s, ad, n, cap, e, c0, c1, c2, h3⟩ := h2 i hi
  exact ⟨s, ad, n, cap, e, g.keep c0, g.keep c1, g.keep c2, h3.gr g⟩
/-- what operation i leaves -/
def Has (i : Nat) (v : Value) (w : World) : Prop := if i = 3 ∨ i = 5 ∨ i = 9 then OddS v w else if i = 11 ∨ i = 12 then OddR v w else OddV v w
theorem Has.gr {i : Nat} {v : Value} {w w' : World} (h : Has i v w) (g : Gr w w') : Has i v w' := by
  unfold Has at h ⊢
  by_cases c1 : i = 3 ∨ i = 5 ∨ i = 9
  · rw [if_pos c1] at h ⊢
    exact OddS.gr h g
  · rw [if_neg c1] at h ⊢
    by_cases c2 : i = 11 ∨ i = 12
    · rw [if_pos c2] at h ⊢
      exact OddR.gr h g
    · rw [if_neg c2] at h ⊢
      exact OddV.gr h g
def dst30 (i : Nat) : Nat := if i = 12 then 40 else 248 + i
theorem dst30_inj {i j : Nat} (hi : i < 13) (hj : j < 13) (h : dst30 i = dst30 j) : i = j := by
  unfold dst30 at h
  split at h <;> split at h <;> omega
structure Inv30 (T : Array Value) (w0 : World) (listed : Array Bool) (a : Act) (w : World) : Prop where
  len : listed.size = 13
  dfr : a.defers = []
  size : a.tmps.size = T.size
  big : T.size = 352
  off : ∀ j, (∀ i, i < 13 → j ≠ dst30 i) → a.tmps[j]? = T[j]?
  gr : Gr w0 w
  has : ∀ i, i < 13 → listed.getD i false = true → ∃ v, a.tmps[dst30 i]? = some v ∧ Has i v w
theorem Inv30.next {T : Array Value} {w0 : World} {listed : Array Bool} {a : Act} {w w' : World} (h : Inv30 T w0 listed a w) {i : Nat} (hi : i < 13) (v : Value) (g : Gr w w') (hv : Has i v w') :
    Inv30 T w0 (listed.setIfInBounds i true) (a.put (some (dst30 i)) v) w' := by
  have hd : dst30 i < a.tmps.size := by
    rw [h.size, h.big]; unfold dst30; split <;> omega
  refine ⟨by simp [h.len], h.dfr, by simp [Act.put, h.size], h.big, fun j hj => ?_, h.gr.trans g, fun k hk hl => ?_⟩
  · simp only [Act.put, Array.getElem?_setIfInBounds]
    rw [if_neg (Ne.symm (hj i hi)), h.off j hj]
  · by_cases e : k = i
    · subst e
      exact ⟨v, by simp only [Act.put, Array.getElem?_setIfInBounds]; rw [if_pos trivial, if_pos hd], hv⟩
    · have hl' : listed.getD k false = true := by
        simp only [Array.getD_eq_getD_getElem?, Array.getElem?_setIfInBounds] at hl ⊢
        rw [if_neg (Ne.symm e)] at hl
        exact hl
      obtain ⟨u, h1, h2⟩ := h.has k hk hl'
      refine ⟨u, ?_, h2.gr g⟩
      simp only [Act.put, Array.getElem?_setIfInBounds]
      rw [if_neg (fun e2 => e (dst30_inj hk hi e2.symm))]
      exact h1
theorem Inv30.get {T : Array Value} {w0 : World} {listed : Array Bool} {a : Act} {w : World} (h : Inv30 T w0 listed a w) (i : Nat) (hi : i < 13) (hl : listed.getD i false = true) : ∃ v, a.eval (.tmp (dst30 i)) = v ∧ Has i v w := by
  obtain ⟨v, h1, h2⟩ := h.has i hi hl
  refine ⟨v, ?_, h2⟩
  simp [Act.eval, Array.getD_eq_getD_getElem?, h1]

theorem row2 (w : World) (x y : Nat) : Row (w.alloc (.cells #[.int .u64 (x : Int), .int .u64 (y : Int)] 41)) (some ⟨w.heap.size, 0, none⟩) 2 2 [x, y] := by
  have hb : (w.alloc (.cells #[.int .u64 (x : Int), .int .u64 (y : Int)] 41)).heap[w.heap.size]? = some (.cells #[.int .u64 (x : Int), .int .u64 (y : Int)] 41) := blk1 _ _
  refine ⟨rfl, by omega, by omega, (fun h => by cases h), fun _ => ⟨w.heap.size, 0, rfl, by simp, fun j hj => ?_⟩⟩
  have : j = 0 ∨ j = 1 := by omega
  rcases this with rfl | rfl <;> (simp only [World.cell?, hb]; rfl)
theorem odd_z1 (w : World) : OddV (.agg #[.bool true, .slice none 0 0, .int .i64 0]) w := ⟨true, none, 0, 0, 0, rfl, [], Row.empty (by omega) (fun _ => rfl), by simp, by simp [RightD]⟩
theorem odd_z2 (w : World) : OddV (.agg #[.bool false, .slice none 0 0, .int .i64 1]) w := ⟨false, none, 0, 0, 1, rfl, [], Row.empty (by omega) (fun _ => rfl), by simp, by simp [RightD]⟩
theorem odd_10 (w : World) : OddS (.slice (some ⟨w.heap.size, 0, none⟩) 2 2) (w.alloc (.cells #[.int .u64 1, .int .u64 0] 41)) := ⟨_, _, _, rfl, [1, 0], row2 w 1 0, by simp, by simp [RightD]⟩
theorem odd_01 (w : World) : OddS (.slice (some ⟨w.heap.size, 0, none⟩) 2 2) (w.alloc (.cells #[.int .u64 0, .int .u64 1] 41)) := ⟨_, _, _, rfl, [0, 1], row2 w 0 1, by simp, by simp [RightD]⟩
theorem odd_long (w : World) (ad : Option Addr) (n cap : Nat) (xs : List Nat) (h : Row w ad n cap xs) (hn : 4096 < n) (hx : ∀ x ∈ xs, x < 18446744073709551616) : OddS (.slice ad n cap) w := by
  refine ⟨ad, n, cap, rfl, xs, h, hx, ?_⟩
  have := h.len
  rintro (⟨h1, _⟩ | ⟨_, h2, _⟩) <;> omega
theorem OddS.v {v : Value} {w : World} (h : OddS v w) : OddV (.agg #[.bool false, v, .int .i64 0]) w := by
  obtain ⟨ad, n, cap, rfl, h2⟩ := h
  exact ⟨_, _, _, _, _, rfl, h2⟩

set_option maxRecDepth 100000 in
set_option maxHeartbeats 4000000 in
theorem step30 (T : Array Value) (w0 : World) (Q : Exit → Act → World → Prop)
    (SM1 : Hid (∀ s e w1, Calls Tryz.prog 20 #[.bool s, .int .u64 1, .int .i64 e] w1 fun r w' => ∃ ad cap, r = .returned (.agg #[.bool s, .slice ad 1 cap, .int .i64 e]) ∧ Lim w' ad 1 cap 18446744073709551616 1 ∧ Gr w1 w'))
    (SM2 : Hid (∀ s e w1, Calls Tryz.prog 20 #[.bool s, .int .u64 2, .int .i64 e] w1 fun r w' => ∃ ad cap, r = .returned (.agg #[.bool s, .slice ad 1 cap, .int .i64 e]) ∧ Lim w' ad 1 cap 18446744073709551616 2 ∧ Gr w1 w'))
    (listed : Array Bool) (a : Act) (w : World) (i : Nat) (h : Inv30 T w0 listed a w) (hi : i ∈ Region.ready .any ops30 listed) : wpOp Tryz.prog ops30 Q i (Inv30 T w0 (listed.setIfInBounds i true)) a w := by
  obtain ⟨_, o, ho, hall⟩ := mem_ready.1 hi
  have hlt : i < 13 := by
    rcases Nat.lt_or_ge i 13 with h' | h'
    · exact h'
    · rw [Array.getElem?_eq_none (show ops30.size ≤ i from h')] at ho
      cases ho
  rcases (show i = 0 ∨ i = 1 ∨ i = 2 ∨ i = 3 ∨ i = 4 ∨ i = 5 ∨ i = 6 ∨ i = 7 ∨ i = 8 ∨ i = 9 ∨ i = 10 ∨ i = 11 ∨ i = 12 by omega) with rfl | rfl | rfl | rfl | rfl | rfl | rfl | rfl | rfl | rfl | rfl | rfl | rfl
  · refine wpOp_call (o := ({ dst := some 248, op := Op.call { callee := Callee.value (Operand.func 20), args := #[Operand.const (Value.bool false), Operand.const (Value.int IntKind.u64 2), Operand.const (Value.int IntKind.i64 0)], argTypes := #[4, 41, 3] }, type := 24, pos := "law.go:174", after := #[], guard := none } : Oper)) (f := 20) (args := #[.bool false, .int .u64 2, .int .i64 0]) rfl rfl ?_ ((SM2.out _ _ _).mono ?_)
    · first | (go_simp; done) | (go_simp; with_reducible rfl)
    · rintro r w' ⟨ad, cap, rfl, hl, g⟩
      exact ⟨_, rfl, h.next (i := 0) (by omega) _ g ⟨_, _, _, _, _, rfl, two_not hl⟩⟩
  · refine wpOp_value (o := ({ dst := some 249, op := Op.build 24 #[(0, Operand.const (Value.bool true))], type := 24, pos := "law.go:174", after := #[], guard := none } : Oper)) (v := .agg #[.bool true, .slice none 0 0, .int .i64 0]) (w' := w) rfl rfl ?_ (h.next (i := 1) (by omega) _ (Gr.refl w) (odd_z1 w))
    first | (go_simp; done) | (go_simp; with_reducible rfl)
  · refine wpOp_value (o := ({ dst := some 250, op := Op.build 24 #[(2, Operand.const (Value.int IntKind.i64 1))], type := 24, pos := "law.go:174", after := #[], guard := none } : Oper)) (v := .agg #[.bool false, .slice none 0 0, .int .i64 1]) (w' := w) rfl rfl ?_ (h.next (i := 2) (by omega) _ (Gr.refl w) (odd_z2 w))
    first | (go_simp; done) | (go_simp; with_reducible rfl)
  · refine wpOp_value (o := ({ dst := some 251, op := Op.buildSlice 22 2 #[(0, Operand.const (Value.int IntKind.u64 1)), (1, Operand.const (Value.int IntKind.u64 0))], type := 22, pos := "law.go:174", after := #[], guard := none } : Oper)) (v := .slice (some ⟨w.heap.size, 0, none⟩) 2 2) (w' := w.alloc (.cells #[.int .u64 1, .int .u64 0] 41)) rfl rfl ?_ (h.next (i := 3) (by omega) _ ((Gr.refl w).alloc _) (odd_10 w))
    first | (go_simp; done) | (go_simp; with_reducible rfl)
  · obtain rfl : ({ dst := some 252, op := Op.build 24 #[(1, Operand.tmp 251)], type := 24, pos := "law.go:174", after := #[{ on := 3, ground := Ground.data }], guard := none } : Oper) = o := Option.some.inj ((show ops30[4]? = some ({ dst := some 252, op := Op.build 24 #[(1, Operand.tmp 251)], type := 24, pos := "law.go:174", after := #[{ on := 3, ground := Ground.data }], guard := none } : Oper) from rfl).symm.trans ho)
    have l3 : listed.getD 3 false = true := hall { on := 3, ground := Ground.data } (by simp) rfl
    obtain ⟨v3, e3, h3⟩ := h.has 3 (by omega) l3
    rw [show dst30 3 = 251 from rfl] at e3
    obtain ⟨ad3, n3, cap3, rfl, o3⟩ := (show OddS v3 w from h3)
    refine wpOp_value (o := ({ dst := some 252, op := Op.build 24 #[(1, Operand.tmp 251)], type := 24, pos := "law.go:174", after := #[{ on := 3, ground := Ground.data }], guard := none } : Oper)) (v := .agg #[.bool false, .slice ad3 n3 cap3, .int .i64 0]) (w' := w) rfl rfl ?_ (h.next (i := 4) (by omega) _ (Gr.refl w) ⟨_, _, _, _, _, rfl, o3⟩)
    first | (go_simp; done) | (go_simp; with_reducible rfl)
  · obtain ⟨i0, hi0, hz0, hz1, hz2⟩ := info_parts Tryz.info41
    obtain ⟨w', hrun, r1, r2⟩ := run_make_full (P := Tryz.prog) w w.heap.size 22 41 i0 (.int .u64 0) 1 Tryz.underlying22 hi0 hz0 hz1 .i64 .i64 4097 (by rw [hz2]; omega) (by unfold maxLen; omega) (Nat.le_refl _)
    have g : Gr w w' := (Gr.refl w).grown r2 (fun k h => by cases h)
    rw [made_u64] at r1
    obtain ⟨ad, cap, hE, hrow⟩ := Row.of_owns r1
    refine wpOp_value (o := ({ dst := some 253, op := Op.makeSlice 22 (Operand.const (Value.int IntKind.i64 4097)) (Operand.const (Value.int IntKind.i64 4097)), type := 22, pos := "law.go:174", after := #[], guard := none } : Oper)) (v := .slice (some ⟨w.heap.size, 0, none⟩) 4097 4097) (w' := w') rfl rfl ?_ (h.next (i := 5) (by omega) _ g (by rw [hE]; exact odd_long _ _ _ _ _ hrow (by omega) (fun x hx => by rw [(List.mem_replicate.1 hx).2]; omega)))
    have hrun2 : Sem.run Tryz.prog (Instr.makeSlice 22 (Value.int IntKind.i64 4097) (Value.int IntKind.i64 4097)) w = Result.ok (Value.slice (some ⟨w.heap.size, 0, none⟩) 4097 4097) w' := hrun
    simp [execOp, Act.eval, hrun2, Result.andThen]
  · obtain rfl : ({ dst := some 254, op := Op.build 24 #[(1, Operand.tmp 253)], type := 24, pos := "law.go:174", after := #[{ on := 5, ground := Ground.data }], guard := none } : Oper) = o := Option.some.inj ((show ops30[6]? = some ({ dst := some 254, op := Op.build 24 #[(1, Operand.tmp 253)], type := 24, pos := "law.go:174", after := #[{ on := 5, ground := Ground.data }], guard := none } : Oper) from rfl).symm.trans ho)
    have l5 : listed.getD 5 false = true := hall { on := 5, ground := Ground.data } (by simp) rfl
    obtain ⟨v5, e5, h5⟩ := h.has 5 (by omega) l5
    rw [show dst30 5 = 253 from rfl] at e5
    obtain ⟨ad5, n5, cap5, rfl, o5⟩ := (show OddS v5 w from h5)
    refine wpOp_value (o := ({ dst := some 254, op := Op.build 24 #[(1, Operand.tmp 253)], type := 24, pos := "law.go:174", after := #[{ on := 5, ground := Ground.data }], guard := none } : Oper)) (v := .agg #[.bool false, .slice ad5 n5 cap5, .int .i64 0]) (w' := w) rfl rfl ?_ (h.next (i := 6) (by omega) _ (Gr.refl w) ⟨_, _, _, _, _, rfl, o5⟩)
    first | (go_simp; done) | (go_simp; with_reducible rfl)
  · refine wpOp_call (o := ({ dst := some 255, op := Op.call { callee := Callee.value (Operand.func 20), args := #[Operand.const (Value.bool false), Operand.const (Value.int IntKind.u64 1), Operand.const (Value.int IntKind.i64 1048577)], argTypes := #[4, 41, 3] }, type := 24, pos := "law.go:174", after := #[{ on := 0, ground := Ground.chain }], guard := none } : Oper)) (f := 20) (args := #[.bool false, .int .u64 1, .int .i64 1048577]) rfl rfl ?_ ((SM1.out _ _ _).mono ?_)
    · first | (go_simp; done) | (go_simp; with_reducible rfl)
    · rintro r w' ⟨ad, cap, rfl, hl, g⟩
      exact ⟨_, rfl, h.next (i := 7) (by omega) _ g ⟨_, _, _, _, _, rfl, far_not hl (by omega)⟩⟩
  · refine wpOp_call (o := ({ dst := some 256, op := Op.call { callee := Callee.value (Operand.func 20), args := #[Operand.const (Value.bool false), Operand.const (Value.int IntKind.u64 1), Operand.const (Value.int IntKind.i64 (-1048577))], argTypes := #[4, 41, 3] }, type := 24, pos := "law.go:174", after := #[{ on := 7, ground := Ground.chain }], guard := none } : Oper)) (f := 20) (args := #[.bool false, .int .u64 1, .int .i64 (-1048577)]) rfl rfl ?_ ((SM1.out _ _ _).mono ?_)
    · first | (go_simp; done) | (go_simp; with_reducible rfl)
    · rintro r w' ⟨ad, cap, rfl, hl, g⟩
      exact ⟨_, rfl, h.next (i := 8) (by omega) _ g ⟨_, _, _, _, _, rfl, far_not hl (by omega)⟩⟩
  · refine wpOp_value (o := ({ dst := some 257, op := Op.buildSlice 22 2 #[(0, Operand.const (Value.int IntKind.u64 0)), (1, Operand.const (Value.int IntKind.u64 1))], type := 22, pos := "law.go:174", after := #[], guard := none } : Oper)) (v := .slice (some ⟨w.heap.size, 0, none⟩) 2 2) (w' := w.alloc (.cells #[.int .u64 0, .int .u64 1] 41)) rfl rfl ?_ (h.next (i := 9) (by omega) _ ((Gr.refl w).alloc _) (odd_01 w))
    first | (go_simp; done) | (go_simp; with_reducible rfl)
  · obtain rfl : ({ dst := some 258, op := Op.build 24 #[(1, Operand.tmp 257)], type := 24, pos := "law.go:174", after := #[{ on := 9, ground := Ground.data }], guard := none } : Oper) = o := Option.some.inj ((show ops30[10]? = some ({ dst := some 258, op := Op.build 24 #[(1, Operand.tmp 257)], type := 24, pos := "law.go:174", after := #[{ on := 9, ground := Ground.data }], guard := none } : Oper) from rfl).symm.trans ho)
    have l9 : listed.getD 9 false = true := hall { on := 9, ground := Ground.data } (by simp) rfl
    obtain ⟨v9, e9, h9⟩ := h.has 9 (by omega) l9
    rw [show dst30 9 = 257 from rfl] at e9
    obtain ⟨ad9, n9, cap9, rfl, o9⟩ := (show OddS v9 w from h9)
    refine wpOp_value (o := ({ dst := some 258, op := Op.build 24 #[(1, Operand.tmp 257)], type := 24, pos := "law.go:174", after := #[{ on := 9, ground := Ground.data }], guard := none } : Oper)) (v := .agg #[.bool false, .slice ad9 n9 cap9, .int .i64 0]) (w' := w) rfl rfl ?_ (h.next (i := 10) (by omega) _ (Gr.refl w) ⟨_, _, _, _, _, rfl, o9⟩)
    first | (go_simp; done) | (go_simp; with_reducible rfl)
  · obtain rfl : ({ dst := some 259, op := Op.buildSlice 45 8 #[(0, Operand.tmp 248), (1, Operand.tmp 249), (2, Operand.tmp 250), (3, Operand.tmp 252), (4, Operand.tmp 254), (5, Operand.tmp 255), (6, Operand.tmp 256), (7, Operand.tmp 258)], type := 45, pos := "law.go:174", after := #[{ on := 0, ground := Ground.data }, { on := 1, ground := Ground.data }, { on := 2, ground := Ground.data }, { on := 4, ground := Ground.data }, { on := 6, ground := Ground.data }, { on := 7, ground := Ground.data }, { on := 8, ground := Ground.data }, { on := 10, ground := Ground.data }], guard := none } : Oper) = o := Option.some.inj ((show ops30[11]? = some ({ dst := some 259, op := Op.buildSlice 45 8 #[(0, Operand.tmp 248), (1, Operand.tmp 249), (2, Operand.tmp 250), (3, Operand.tmp 252), (4, Operand.tmp 254), (5, Operand.tmp 255), (6, Operand.tmp 256), (7, Operand.tmp 258)], type := 45, pos := "law.go:174", after := #[{ on := 0, ground := Ground.data }, { on := 1, ground := Ground.data }, { on := 2, ground := Ground.data }, { on := 4, ground := Ground.data }, { on := 6, ground := Ground.data }, { on := 7, ground := Ground.data }, { on := 8, ground := Ground.data }, { on := 10, ground := Ground.data }], guard := none } : Oper) from rfl).symm.trans ho)
    have l0 : listed.getD 0 false = true := hall { on := 0, ground := Ground.data } (by simp) rfl
    obtain ⟨v0, e0, h0⟩ := h.has 0 (by omega) l0
    have l1 : listed.getD 1 false = true := hall { on := 1, ground := Ground.data } (by simp) rfl
    obtain ⟨v1, e1, h1⟩ := h.has 1 (by omega) l1
    have l2 : listed.getD 2 false = true := hall { on := 2, ground := Ground.data } (by simp) rfl
    obtain ⟨v2, e2, h2⟩ := h.has 2 (by omega) l2
    have l4 : listed.getD 4 false = true := hall { on := 4, ground := Ground.data } (by simp) rfl
    obtain ⟨v4, e4, h4⟩ := h.has 4 (by omega) l4
    have l6 : listed.getD 6 false = true := hall { on := 6, ground := Ground.data } (by simp) rfl
    obtain ⟨v6, e6, h6⟩ := h.has 6 (by omega) l6
    have l7 : listed.getD 7 false = true := hall { on := 7, ground := Ground.data } (by simp) rfl
    obtain ⟨v7, e7, h7⟩ := h.has 7 (by omega) l7
    have l8 : listed.getD 8 false = true := hall { on := 8, ground := Ground.data } (by simp) rfl
    obtain ⟨v8, e8, h8⟩ := h.has 8 (by omega) l8
    have l10 : listed.getD 10 false = true := hall { on := 10, ground := Ground.data } (by simp) rfl
    obtain ⟨v10, e10, h10⟩ := h.has 10 (by omega) l10
    rw [show dst30 0 = 248 from rfl] at e0
    obtain ⟨s0, ad0, n0, cap0, x0, rfl, o0⟩ := (show OddV v0 w from h0)
    rw [show dst30 1 = 249 from rfl] at e1
    obtain ⟨s1, ad1, n1, cap1, x1, rfl, o1⟩ := (show OddV v1 w from h1)
    rw [show dst30 2 = 250 from rfl] at e2
    obtain ⟨s2, ad2, n2, cap2, x2, rfl, o2⟩ := (show OddV v2 w from h2)
    rw [show dst30 4 = 252 from rfl] at e4
    obtain ⟨s4, ad4, n4, cap4, x4, rfl, o4⟩ := (show OddV v4 w from h4)
    rw [show dst30 6 = 254 from rfl] at e6
    obtain ⟨s6, ad6, n6, cap6, x6, rfl, o6⟩ := (show OddV v6 w from h6)
    rw [show dst30 7 = 255 from rfl] at e7
    obtain ⟨s7, ad7, n7, cap7, x7, rfl, o7⟩ := (show OddV v7 w from h7)
    rw [show dst30 8 = 256 from rfl] at e8
    obtain ⟨s8, ad8, n8, cap8, x8, rfl, o8⟩ := (show OddV v8 w from h8)
    rw [show dst30 10 = 258 from rfl] at e10
    obtain ⟨s10, ad10, n10, cap10, x10, rfl, o10⟩ := (show OddV v10 w from h10)
    have hb := blk1 w (.cells #[.bool s0, .slice ad0 n0 cap0, .int .i64 x0, .bool s1, .slice ad1 n1 cap1, .int .i64 x1, .bool s2, .slice ad2 n2 cap2, .int .i64 x2, .bool s4, .slice ad4 n4 cap4, .int .i64 x4, .bool s6, .slice ad6 n6 cap6, .int .i64 x6, .bool s7, .slice ad7 n7 cap7, .int .i64 x7, .bool s8, .slice ad8 n8 cap8, .int .i64 x8, .bool s10, .slice ad10 n10 cap10, .int .i64 x10] 24)
    have g : Gr w (w.alloc (.cells #[.bool s0, .slice ad0 n0 cap0, .int .i64 x0, .bool s1, .slice ad1 n1 cap1, .int .i64 x1, .bool s2, .slice ad2 n2 cap2, .int .i64 x2, .bool s4, .slice ad4 n4 cap4, .int .i64 x4, .bool s6, .slice ad6 n6 cap6, .int .i64 x6, .bool s7, .slice ad7 n7 cap7, .int .i64 x7, .bool s8, .slice ad8 n8 cap8, .int .i64 x8, .bool s10, .slice ad10 n10 cap10, .int .i64 x10] 24)) := (Gr.refl w).alloc _
    refine wpOp_value (o := ({ dst := some 259, op := Op.buildSlice 45 8 #[(0, Operand.tmp 248), (1, Operand.tmp 249), (2, Operand.tmp 250), (3, Operand.tmp 252), (4, Operand.tmp 254), (5, Operand.tmp 255), (6, Operand.tmp 256), (7, Operand.tmp 258)], type := 45, pos := "law.go:174", after := #[{ on := 0, ground := Ground.data }, { on := 1, ground := Ground.data }, { on := 2, ground := Ground.data }, { on := 4, ground := Ground.data }, { on := 6, ground := Ground.data }, { on := 7, ground := Ground.data }, { on := 8, ground := Ground.data }, { on := 10, ground := Ground.data }], guard := none } : Oper)) (v := .slice (some ⟨w.heap.size, 0, none⟩) 8 8) (w' := w.alloc (.cells #[.bool s0, .slice ad0 n0 cap0, .int .i64 x0, .bool s1, .slice ad1 n1 cap1, .int .i64 x1, .bool s2, .slice ad2 n2 cap2, .int .i64 x2, .bool s4, .slice ad4 n4 cap4, .int .i64 x4, .bool s6, .slice ad6 n6 cap6, .int .i64 x6, .bool s7, .slice ad7 n7 cap7, .int .i64 x7, .bool s8, .slice ad8 n8 cap8, .int .i64 x8, .bool s10, .slice ad10 n10 cap10, .int .i64 x10] 24)) rfl rfl ?_ (h.next (i := 11) (by omega) _ g ⟨w.heap.size, rfl, fun i hi => ?_⟩)
    · first | (go_simp; done) | (go_simp; with_reducible rfl)
    · rcases (show i = 0 ∨ i = 1 ∨ i = 2 ∨ i = 3 ∨ i = 4 ∨ i = 5 ∨ i = 6 ∨ i = 7 by omega) with rfl | rfl | rfl | rfl | rfl | rfl | rfl | rfl
      · exact ⟨s0, ad0, n0, cap0, x0, by (simp only [World.cell?, hb]; rfl), by (simp only [World.cell?, hb]; rfl), by (simp only [World.cell?, hb]; rfl), o0.gr g⟩
      · exact ⟨s1, ad1, n1, cap1, x1, by (simp only [World.cell?, hb]; rfl), by (simp only [World.cell?, hb]; rfl), by (simp only [World.cell?, hb]; rfl), o1.gr g⟩
      · exact ⟨s2, ad2, n2, cap2, x2, by (simp only [World.cell?, hb]; rfl), by (simp only [World.cell?, hb]; rfl), by (simp only [World.cell?, hb]; rfl), o2.gr g⟩
      · exact ⟨s4, ad4, n4, cap4, x4, by (simp only [World.cell?, hb]; rfl), by (simp only [World.cell?, hb]; rfl), by (simp only [World.cell?, hb]; rfl), o4.gr g⟩
      · exact ⟨s6, ad6, n6, cap6, x6, by (simp only [World.cell?, hb]; rfl), by (simp only [World.cell?, hb]; rfl), by (simp only [World.cell?, hb]; rfl), o6.gr g⟩
      · exact ⟨s7, ad7, n7, cap7, x7, by (simp only [World.cell?, hb]; rfl), by (simp only [World.cell?, hb]; rfl), by (simp only [World.cell?, hb]; rfl), o7.gr g⟩
      · exact ⟨s8, ad8, n8, cap8, x8, by (simp only [World.cell?, hb]; rfl), by (simp only [World.cell?, hb]; rfl), by (simp only [World.cell?, hb]; rfl), o8.gr g⟩
      · exact ⟨s10, ad10, n10, cap10, x10, by (simp only [World.cell?, hb]; rfl), by (simp only [World.cell?, hb]; rfl), by (simp only [World.cell?, hb]; rfl), o10.gr g⟩
  · obtain rfl : ({ dst := some 40, op := Op.assign (Operand.tmp 259), type := 45, pos := "law.go:174", after := #[{ on := 11, ground := Ground.data }, { on := 8, ground := Ground.chain }, { on := 0, ground := Ground.phase }, { on := 1, ground := Ground.phase }, { on := 2, ground := Ground.phase }, { on := 3, ground := Ground.phase }, { on := 4, ground := Ground.phase }, { on := 5, ground := Ground.phase }, { on := 6, ground := Ground.phase }, { on := 7, ground := Ground.phase }, { on := 8, ground := Ground.phase }, { on := 9, ground := Ground.phase }, { on := 10, ground := Ground.phase }, { on := 11, ground := Ground.phase }], guard := none } : Oper) = o := Option.some.inj ((show ops30[12]? = some ({ dst := some 40, op := Op.assign (Operand.tmp 259), type := 45, pos := "law.go:174", after := #[{ on := 11, ground := Ground.data }, { on := 8, ground := Ground.chain }, { on := 0, ground := Ground.phase }, { on := 1, ground := Ground.phase }, { on := 2, ground := Ground.phase }, { on := 3, ground := Ground.phase }, { on := 4, ground := Ground.phase }, { on := 5, ground := Ground.phase }, { on := 6, ground := Ground.phase }, { on := 7, ground := Ground.phase }, { on := 8, ground := Ground.phase }, { on := 9, ground := Ground.phase }, { on := 10, ground := Ground.phase }, { on := 11, ground := Ground.phase }], guard := none } : Oper) from rfl).symm.trans ho)
    have l11 : listed.getD 11 false = true := hall { on := 11, ground := Ground.data } (by simp) rfl
    obtain ⟨v11, e11, h11⟩ := h.has 11 (by omega) l11
    rw [show dst30 11 = 259 from rfl] at e11
    refine wpOp_value (o := ({ dst := some 40, op := Op.assign (Operand.tmp 259), type := 45, pos := "law.go:174", after := #[{ on := 11, ground := Ground.data }, { on := 8, ground := Ground.chain }, { on := 0, ground := Ground.phase }, { on := 1, ground := Ground.phase }, { on := 2, ground := Ground.phase }, { on := 3, ground := Ground.phase }, { on := 4, ground := Ground.phase }, { on := 5, ground := Ground.phase }, { on := 6, ground := Ground.phase }, { on := 7, ground := Ground.phase }, { on := 8, ground := Ground.phase }, { on := 9, ground := Ground.phase }, { on := 10, ground := Ground.phase }, { on := 11, ground := Ground.phase }], guard := none } : Oper)) (v := v11) (w' := w) rfl rfl ?_ (h.next (i := 12) (by omega) _ (Gr.refl w) h11)
    first | (go_simp; done) | (go_simp; with_reducible rfl)

theorem listed_of {listed : Array Bool} (hl : listed.size = 13) {i : Nat} (hi : i < 13) (h : ¬ listed.getD i true = false) : listed.getD i false = true := by
  have h' : i < listed.size := by omega
  simp [h'] at h ⊢
  exact h
/-- all have come up -/
theorem all30 (listed : Array Bool) (hl : listed.size = 13) (hr : Region.ready .any ops30 listed = []) : ∀ i, i < 13 → listed.getD i false = true := by
  have no : ∀ i, i ∉ Region.ready .any ops30 listed := fun i h => by rw [hr] at h; cases h
  have l0 : listed.getD 0 false = true := listed_of hl (by omega) fun hu => no 0 (mem_ready.2 ⟨hu, ({ dst := some 248, op := Op.call { callee := Callee.value (Operand.func 20), args := #[Operand.const (Value.bool false), Operand.const (Value.int IntKind.u64 2), Operand.const (Value.int IntKind.i64 0)], argTypes := #[4, 41, 3] }, type := 24, pos := "law.go:174", after := #[], guard := none } : Oper), rfl, (by simp)⟩)
  have l1 : listed.getD 1 false = true := listed_of hl (by omega) fun hu => no 1 (mem_ready.2 ⟨hu, ({ dst := some 249, op := Op.build 24 #[(0, Operand.const (Value.bool true))], type := 24, pos := "law.go:174", after := #[], guard := none } : Oper), rfl, (by simp)⟩)
  have l2 : listed.getD 2 false = true := listed_of hl (by omega) fun hu => no 2 (mem_ready.2 ⟨hu, ({ dst := some 250, op := Op.build 24 #[(2, Operand.const (Value.int IntKind.i64 1))], type := 24, pos := "law.go:174", after := #[], guard := none } : Oper), rfl, (by simp)⟩)
  have l3 : listed.getD 3 false = true := listed_of hl (by omega) fun hu => no 3 (mem_ready.2 ⟨hu, ({ dst := some 251, op := Op.buildSlice 22 2 #[(0, Operand.const (Value.int IntKind.u64 1)), (1, Operand.const (Value.int IntKind.u64 0))], type := 22, pos := "law.go:174", after := #[], guard := none } : Oper), rfl, (by simp)⟩)
  have l4 : listed.getD 4 false = true := listed_of hl (by omega) fun hu => no 4 (mem_ready.2 ⟨hu, ({ dst := some 252, op := Op.build 24 #[(1, Operand.tmp 251)], type := 24, pos := "law.go:174", after := #[{ on := 3, ground := Ground.data }], guard := none } : Oper), rfl, (fun e he _ => by simp at he; rcases he with rfl <;> assumption)⟩)
  have l5 : listed.getD 5 false = true := listed_of hl (by omega) fun hu => no 5 (mem_ready.2 ⟨hu, ({ dst := some 253, op := Op.makeSlice 22 (Operand.const (Value.int IntKind.i64 4097)) (Operand.const (Value.int IntKind.i64 4097)), type := 22, pos := "law.go:174", after := #[], guard := none } : Oper), rfl, (by simp)⟩)
  have l6 : listed.getD 6 false = true := listed_of hl (by omega) fun hu => no 6 (mem_ready.2 ⟨hu, ({ dst := some 254, op := Op.build 24 #[(1, Operand.tmp 253)], type := 24, pos := "law.go:174", after := #[{ on := 5, ground := Ground.data }], guard := none } : Oper), rfl, (fun e he _ => by simp at he; rcases he with rfl <;> assumption)⟩)
  have l7 : listed.getD 7 false = true := listed_of hl (by omega) fun hu => no 7 (mem_ready.2 ⟨hu, ({ dst := some 255, op := Op.call { callee := Callee.value (Operand.func 20), args := #[Operand.const (Value.bool false), Operand.const (Value.int IntKind.u64 1), Operand.const (Value.int IntKind.i64 1048577)], argTypes := #[4, 41, 3] }, type := 24, pos := "law.go:174", after := #[{ on := 0, ground := Ground.chain }], guard := none } : Oper), rfl, (fun e he _ => by simp at he; rcases he with rfl <;> assumption)⟩)
  have l8 : listed.getD 8 false = true := listed_of hl (by omega) fun hu => no 8 (mem_ready.2 ⟨hu, ({ dst := some 256, op := Op.call { callee := Callee.value (Operand.func 20), args := #[Operand.const (Value.bool false), Operand.const (Value.int IntKind.u64 1), Operand.const (Value.int IntKind.i64 (-1048577))], argTypes := #[4, 41, 3] }, type := 24, pos := "law.go:174", after := #[{ on := 7, ground := Ground.chain }], guard := none } : Oper), rfl, (fun e he _ => by simp at he; rcases he with rfl <;> assumption)⟩)
  have l9 : listed.getD 9 false = true := listed_of hl (by omega) fun hu => no 9 (mem_ready.2 ⟨hu, ({ dst := some 257, op := Op.buildSlice 22 2 #[(0, Operand.const (Value.int IntKind.u64 0)), (1, Operand.const (Value.int IntKind.u64 1))], type := 22, pos := "law.go:174", after := #[], guard := none } : Oper), rfl, (by simp)⟩)
  have l10 : listed.getD 10 false = true := listed_of hl (by omega) fun hu => no 10 (mem_ready.2 ⟨hu, ({ dst := some 258, op := Op.build 24 #[(1, Operand.tmp 257)], type := 24, pos := "law.go:174", after := #[{ on := 9, ground := Ground.data }], guard := none } : Oper), rfl, (fun e he _ => by simp at he; rcases he with rfl <;> assumption)⟩)
  have l11 : listed.getD 11 false = true := listed_of hl (by omega) fun hu => no 11 (mem_ready.2 ⟨hu, ({ dst := some 259, op := Op.buildSlice 45 8 #[(0, Operand.tmp 248), (1, Operand.tmp 249), (2, Operand.tmp 250), (3, Operand.tmp 252), (4, Operand.tmp 254), (5, Operand.tmp 255), (6, Operand.tmp 256), (7, Operand.tmp 258)], type := 45, pos := "law.go:174", after := #[{ on := 0, ground := Ground.data }, { on := 1, ground := Ground.data }, { on := 2, ground := Ground.data }, { on := 4, ground := Ground.data }, { on := 6, ground := Ground.data }, { on := 7, ground := Ground.data }, { on := 8, ground := Ground.data }, { on := 10, ground := Ground.data }], guard := none } : Oper), rfl, (fun e he _ => by simp at he; rcases he with rfl | rfl | rfl | rfl | rfl | rfl | rfl | rfl <;> assumption)⟩)
  have l12 : listed.getD 12 false = true := listed_of hl (by omega) fun hu => no 12 (mem_ready.2 ⟨hu, ({ dst := some 40, op := Op.assign (Operand.tmp 259), type := 45, pos := "law.go:174", after := #[{ on := 11, ground := Ground.data }, { on := 8, ground := Ground.chain }, { on := 0, ground := Ground.phase }, { on := 1, ground := Ground.phase }, { on := 2, ground := Ground.phase }, { on := 3, ground := Ground.phase }, { on := 4, ground := Ground.phase }, { on := 5, ground := Ground.phase }, { on := 6, ground := Ground.phase }, { on := 7, ground := Ground.phase }, { on := 8, ground := Ground.phase }, { on := 9, ground := Ground.phase }, { on := 10, ground := Ground.phase }, { on := 11, ground := Ground.phase }], guard := none } : Oper), rfl, (fun e he _ => by simp at he; rcases he with rfl | rfl | rfl | rfl | rfl | rfl | rfl | rfl | rfl | rfl | rfl | rfl | rfl | rfl <;> assumption)⟩)
  intro i hi
  rcases (show i = 0 ∨ i = 1 ∨ i = 2 ∨ i = 3 ∨ i = 4 ∨ i = 5 ∨ i = 6 ∨ i = 7 ∨ i = 8 ∨ i = 9 ∨ i = 10 ∨ i = 11 ∨ i = 12 by omega) with rfl | rfl | rfl | rfl | rfl | rfl | rfl | rfl | rfl | rfl | rfl | rfl | rfl <;> assumption

theorem frame30 {T : Array Value} {w0 : World} {listed : Array Bool} {a : Act} {w : World} (h : Inv30 T w0 listed a w) (hall : ∀ i, i < 13 → listed.getD i false = true) : ∃ u0 u1 u2 u3 u4 u5 u6 u7 u8 u9 u10 u11 v, a = ⟨(((((((((((((T.setIfInBounds 248 u0).setIfInBounds 249 u1).setIfInBounds 250 u2).setIfInBounds 251 u3).setIfInBounds 252 u4).setIfInBounds 253 u5).setIfInBounds 254 u6).setIfInBounds 255 u7).setIfInBounds 256 u8).setIfInBounds 257 u9).setIfInBounds 258 u10).setIfInBounds 259 u11).setIfInBounds 40 v), []⟩ ∧ OddR v w := by
  obtain ⟨u0, e0, h0⟩ := h.has 0 (by omega) (hall 0 (by omega))
  rw [show dst30 0 = 248 from rfl] at e0
  obtain ⟨u1, e1, h1⟩ := h.has 1 (by omega) (hall 1 (by omega))
  rw [show dst30 1 = 249 from rfl] at e1
  obtain ⟨u2, e2, h2⟩ := h.has 2 (by omega) (hall 2 (by omega))
  rw [show dst30 2 = 250 from rfl] at e2
  obtain ⟨u3, e3, h3⟩ := h.has 3 (by omega) (hall 3 (by omega))
  rw [show dst30 3 = 251 from rfl] at e3
  obtain ⟨u4, e4, h4⟩ := h.has 4 (by omega) (hall 4 (by omega))
  rw [show dst30 4 = 252 from rfl] at e4
  obtain ⟨u5, e5, h5⟩ := h.has 5 (by omega) (hall 5 (by omega))
  rw [show dst30 5 = 253 from rfl] at e5
  obtain ⟨u6, e6, h6⟩ := h.has 6 (by omega) (hall 6 (by omega))
  rw [show dst30 6 = 254 from rfl] at e6
  obtain ⟨u7, e7, h7⟩ := h.has 7 (by omega) (hall 7 (by omega))
  rw [show dst30 7 = 255 from rfl] at e7
  obtain ⟨u8, e8, h8⟩ := h.has 8 (by omega) (hall 8 (by omega))
  rw [show dst30 8 = 256 from rfl] at e8
  obtain ⟨u9, e9, h9⟩ := h.has 9 (by omega) (hall 9 (by omega))
  rw [show dst30 9 = 257 from rfl] at e9
  obtain ⟨u10, e10, h10⟩ := h.has 10 (by omega) (hall 10 (by omega))
  rw [show dst30 10 = 258 from rfl] at e10
  obtain ⟨u11, e11, h11⟩ := h.has 11 (by omega) (hall 11 (by omega))
  rw [show dst30 11 = 259 from rfl] at e11
  obtain ⟨v, e12, h12⟩ := h.has 12 (by omega) (hall 12 (by omega))
  rw [show dst30 12 = 40 from rfl] at e12
  refine ⟨u0, u1, u2, u3, u4, u5, u6, u7, u8, u9, u10, u11, v, ?_, h12⟩
  have hb := h.big
  have hd := h.dfr
  have key : a.tmps = (((((((((((((T.setIfInBounds 248 u0).setIfInBounds 249 u1).setIfInBounds 250 u2).setIfInBounds 251 u3).setIfInBounds 252 u4).setIfInBounds 253 u5).setIfInBounds 254 u6).setIfInBounds 255 u7).setIfInBounds 256 u8).setIfInBounds 257 u9).setIfInBounds 258 u10).setIfInBounds 259 u11).setIfInBounds 40 v) := by
    refine Array.ext_getElem? fun j => ?_
    simp only [Array.getElem?_setIfInBounds, Array.size_setIfInBounds, hb]
    by_cases c : ∀ i, i < 13 → j ≠ dst30 i
    · rw [h.off j c]
      rw [if_neg (show 40 ≠ j from Ne.symm (c 12 (by omega)))]
      rw [if_neg (show 259 ≠ j from Ne.symm (c 11 (by omega)))]
      rw [if_neg (show 258 ≠ j from Ne.symm (c 10 (by omega)))]
      rw [if_neg (show 257 ≠ j from Ne.symm (c 9 (by omega)))]
      rw [if_neg (show 256 ≠ j from Ne.symm (c 8 (by omega)))]
      rw [if_neg (show 255 ≠ j from Ne.symm (c 7 (by omega)))]
      rw [if_neg (show 254 ≠ j from Ne.symm (c 6 (by omega)))]
      rw [if_neg (show 253 ≠ j from Ne.symm (c 5 (by omega)))]
      rw [if_neg (show 252 ≠ j from Ne.symm (c 4 (by omega)))]
      rw [if_neg (show 251 ≠ j from Ne.symm (c 3 (by omega)))]
      rw [if_neg (show 250 ≠ j from Ne.symm (c 2 (by omega)))]
      rw [if_neg (show 249 ≠ j from Ne.symm (c 1 (by omega)))]
      rw [if_neg (show 248 ≠ j from Ne.symm (c 0 (by omega)))]
    · obtain ⟨i, hi, rfl⟩ : ∃ i, i < 13 ∧ j = dst30 i := by
        refine Classical.byContradiction fun hn => c fun i hi e => hn ⟨i, hi, e⟩
      rcases (show i = 0 ∨ i = 1 ∨ i = 2 ∨ i = 3 ∨ i = 4 ∨ i = 5 ∨ i = 6 ∨ i = 7 ∨ i = 8 ∨ i = 9 ∨ i = 10 ∨ i = 11 ∨ i = 12 by omega) with rfl | rfl | rfl | rfl | rfl | rfl | rfl | rfl | rfl | rfl | rfl | rfl | rfl
      · exact e0
      · exact e1
      · exact e2
      · exact e3
      · exact e4
      · exact e5
      · exact e6
      · exact e7
      · exact e8
      · exact e9
      · exact e10
      · exact e11
      · exact e12
  cases a
  simp only at hd key
  rw [hd, key]
/-- the region, whatever its order -/
theorem reg30 (T : Array Value) (hT : T.size = 352) (w0 : World) (Q : Exit → Act → World → Prop)
    (SM1 : Hid (∀ s e w1, Calls Tryz.prog 20 #[.bool s, .int .u64 1, .int .i64 e] w1 fun r w' => ∃ ad cap, r = .returned (.agg #[.bool s, .slice ad 1 cap, .int .i64 e]) ∧ Lim w' ad 1 cap 18446744073709551616 1 ∧ Gr w1 w'))
    (SM2 : Hid (∀ s e w1, Calls Tryz.prog 20 #[.bool s, .int .u64 2, .int .i64 e] w1 fun r w' => ∃ ad cap, r = .returned (.agg #[.bool s, .slice ad 1 cap, .int .i64 e]) ∧ Lim w' ad 1 cap 18446744073709551616 2 ∧ Gr w1 w'))
    (hQ : ∀ u0 u1 u2 u3 u4 u5 u6 u7 u8 u9 u10 u11 v w, OddR v w → Gr w0 w → Q .normal ⟨(((((((((((((T.setIfInBounds 248 u0).setIfInBounds 249 u1).setIfInBounds 250 u2).setIfInBounds 251 u3).setIfInBounds 252 u4).setIfInBounds 253 u5).setIfInBounds 254 u6).setIfInBounds 255 u7).setIfInBounds 256 u8).setIfInBounds 257 u9).setIfInBounds 258 u10).setIfInBounds 259 u11).setIfInBounds 40 v), []⟩ w) :
    Code.wp Tryz.prog (Code.region 30 ops30 true) Q ⟨T, []⟩ w0 := by
  refine wp_region_any (by kernel_rfl) (any_inv (Inv30 T w0) (fun l a w i h hi => step30 T w0 Q SM1 SM2 l a w i h hi) (fun l a w h hr => ?_) _ _ _ _ (by decide) ?_)
  · obtain ⟨u0, u1, u2, u3, u4, u5, u6, u7, u8, u9, u10, u11, v, rfl, h2⟩ := frame30 h (all30 l h.len hr)
    exact hQ u0 u1 u2 u3 u4 u5 u6 u7 u8 u9 u10 u11 v w h2 h.gr
  · refine ⟨rfl, rfl, rfl, hT, fun _ _ => rfl, (Gr.refl w0).drew, fun i hi hl => ?_⟩
    exfalso
    rcases (show i = 0 ∨ i = 1 ∨ i = 2 ∨ i = 3 ∨ i = 4 ∨ i = 5 ∨ i = 6 ∨ i = 7 ∨ i = 8 ∨ i = 9 ∨ i = 10 ∨ i = 11 ∨ i = 12 by omega) with rfl | rfl | rfl | rfl | rfl | rfl | rfl | rfl | rfl | rfl | rfl | rfl | rfl <;> exact absurd hl (by decide)
end Go.Proofs.YtnmdnhmfmahjaaaGreatDoor
