import Derived.Test.YtaiflkpanankcaaDoorXV
namespace Go.Proofs.YtaiflkpanankcaaDoor
open Go.RowKit
set_option linter.unusedVariables false
set_option linter.unusedSectionVars false

/-- the nine operations -/
structure Reg (ops : Array Oper) (a : Act) (β1 β2 β3 : Nat) : Prop where
  l1 : ∃ o, ops[0]? = some o ∧ o.guard = none ∧ o.op = .load 24 (.tmp 3) ∧ o.dst = some 41
  k1 : ∃ o, ops[1]? = some o ∧ o.guard = none ∧ o.op = .call { callee := .value (.func 8), args := #[.tmp 41], argTypes := #[24] } ∧ o.dst = some 42
  z1 : ∃ o, ops[6]? = some o ∧ o.guard = none ∧ o.op = .store 24 (.tmp 3) (.tmp 42) ∧ o.dst = none
  l2 : ∃ o, ops[2]? = some o ∧ o.guard = none ∧ o.op = .load 24 (.tmp 4) ∧ o.dst = some 43
  k2 : ∃ o, ops[3]? = some o ∧ o.guard = none ∧ o.op = .call { callee := .value (.func 8), args := #[.tmp 43], argTypes := #[24] } ∧ o.dst = some 44
  z2 : ∃ o, ops[7]? = some o ∧ o.guard = none ∧ o.op = .store 24 (.tmp 4) (.tmp 44) ∧ o.dst = none
  l3 : ∃ o, ops[4]? = some o ∧ o.guard = none ∧ o.op = .load 24 (.tmp 5) ∧ o.dst = some 45
  k3 : ∃ o, ops[5]? = some o ∧ o.guard = none ∧ o.op = .call { callee := .value (.func 8), args := #[.tmp 45], argTypes := #[24] } ∧ o.dst = some 46
  z3 : ∃ o, ops[8]? = some o ∧ o.guard = none ∧ o.op = .store 24 (.tmp 5) (.tmp 46) ∧ o.dst = none
  e1 : a.eval (.tmp 3) = .pointer (some ⟨β1, 0, none⟩)
  e2 : a.eval (.tmp 4) = .pointer (some ⟨β2, 0, none⟩)
  e3 : a.eval (.tmp 5) = .pointer (some ⟨β3, 0, none⟩)
  sz : 46 < a.tmps.size
  n12 : β1 ≠ β2
  n13 : β1 ≠ β3
  n23 : β2 ≠ β3
  r000 : Region.ready .any ops #[false, false, false, false, false, false, false, false, false] = [0, 2, 4]
  r001 : Region.ready .any ops #[false, false, false, false, true, false, false, false, false] = [0, 2]
  r010 : Region.ready .any ops #[false, false, true, false, false, false, false, false, false] = [0, 4]
  r011 : Region.ready .any ops #[false, false, true, false, true, false, false, false, false] = [0]
  r100 : Region.ready .any ops #[true, false, false, false, false, false, false, false, false] = [1, 2, 4]
  r101 : Region.ready .any ops #[true, false, false, false, true, false, false, false, false] = [1, 2]
  r110 : Region.ready .any ops #[true, false, true, false, false, false, false, false, false] = [1, 4]
  r111 : Region.ready .any ops #[true, false, true, false, true, false, false, false, false] = [1]
  r200 : Region.ready .any ops #[true, true, false, false, false, false, false, false, false] = [2, 4]
  r201 : Region.ready .any ops #[true, true, false, false, true, false, false, false, false] = [2]
  r210 : Region.ready .any ops #[true, true, true, false, false, false, false, false, false] = [3, 4]
  r211 : Region.ready .any ops #[true, true, true, false, true, false, false, false, false] = [3]
  r220 : Region.ready .any ops #[true, true, true, true, false, false, false, false, false] = [4]
  r221 : Region.ready .any ops #[true, true, true, true, true, false, false, false, false] = [5]
  r222 : Region.ready .any ops #[true, true, true, true, true, true, false, false, false] = [6]
  r322 : Region.ready .any ops #[true, true, true, true, true, true, true, false, false] = [7]
  r332 : Region.ready .any ops #[true, true, true, true, true, true, true, true, false] = [8]
  r333 : Region.ready .any ops #[true, true, true, true, true, true, true, true, true] = []

theorem Gr.s3 {W w : World} (g : Gr W w) {b : Nat} (hb : W.heap.size ≤ b) (v0 v1 v2 : Value) : Gr W (S3 w b v0 v1 v2) := ((g.setCell (p := ⟨b, 0, none⟩) hb _).setCell (p := ⟨b, 1, none⟩) hb _).setCell (p := ⟨b, 2, none⟩) hb _
theorem DyV.s3 {w : World} {s : Bool} {ad : Option Addr} {n cap : Nat} {e V : Int} (h : DyV w s ad n cap e V) {B2 : Nat} {p : Bool} {s0 : Option Addr} {l0 c0 : Nat} {i0 : Int} {T : TypeId} {fr : Nat × Nat} (hb : w.heap[B2]? = some (.cells #[.bool p, .slice s0 l0 c0, .int .i64 i0] T fr)) (v0 v1 v2 : Value) : DyV (S3 w B2 v0 v1 v2) s ad n cap e V := h.set3 hb v0 v1 v2
theorem S3_far {w : World} {B2 b : Nat} (hne : b ≠ B2) (v0 v1 v2 : Value) {x : Option Obj} (h : w.heap[b]? = x) : (S3 w B2 v0 v1 v2).heap[b]? = x := (heap_set3 hne v0 v1 v2).trans h
theorem put_id (a : Act) (d : Nat) (h : a.tmps[d]? = some undef) : a.put (some d) undef = a := by
  have : a.tmps.setIfInBounds d undef = a.tmps := by
    refine Array.ext_getElem? fun i => ?_
    rw [Array.getElem?_setIfInBounds]
    split
    · next hi =>
      subst hi
      rw [h]
      split
      · rfl
      · next hn => rw [Array.getElem?_eq_none (by omega)] at h; cases h
    · rfl
  show ({ a with tmps := a.tmps.setIfInBounds d undef } : Act) = a
  rw [this]
theorem Cn_id (a : Act) (h1 : a.tmps[41]? = some undef) (h2 : a.tmps[42]? = some undef) (h3 : a.tmps[43]? = some undef) (h4 : a.tmps[44]? = some undef) (h5 : a.tmps[45]? = some undef) (h6 : a.tmps[46]? = some undef) : Cn a undef undef undef undef undef undef = a := by
  unfold Cn
  rw [put_id a 41 h1, put_id a 42 h2, put_id a 43 h3, put_id a 44 h4, put_id a 45 h5, put_id a 46 h6]
section
variable {ops : Array Oper} {Q : Exit → Act → World → Prop} {a : Act} {β1 β2 β3 : Nat} (h : Reg ops a β1 β2 β3) {w : World} (hb1 : w.heap.size ≤ β1) (hb2 : w.heap.size ≤ β2) (hb3 : w.heap.size ≤ β3)
  {s1 s2 s3 : Bool} {a1 a2 a3 : Option Addr} {n1 n2 n3 c1 c2 c3 : Nat} {e1 e2 e3 : Int}
  (K1 : ∀ w1, Gr w w1 → Calls Tryd.prog 8 #[.agg #[.bool s1, .slice a1 n1 c1, .int .i64 e1]] w1 fun r w' => ∃ s ad n cap e V, r = .returned (.agg #[.bool s, .slice ad n cap, .int .i64 e]) ∧ Hid (DyV w' s ad n cap e V) ∧ Hid (Gd 20000 42560 V) ∧ Gr w1 w')
  (K2 : ∀ w1, Gr w w1 → Calls Tryd.prog 8 #[.agg #[.bool s2, .slice a2 n2 c2, .int .i64 e2]] w1 fun r w' => ∃ s ad n cap e V, r = .returned (.agg #[.bool s, .slice ad n cap, .int .i64 e]) ∧ Hid (DyV w' s ad n cap e V) ∧ Hid (Gd 20000 42560 V) ∧ Gr w1 w')
  (K3 : ∀ w1, Gr w w1 → Calls Tryd.prog 8 #[.agg #[.bool s3, .slice a3 n3 c3, .int .i64 e3]] w1 fun r w' => ∃ s ad n cap e V, r = .returned (.agg #[.bool s, .slice ad n cap, .int .i64 e]) ∧ Hid (DyV w' s ad n cap e V) ∧ Hid (Gd 20000 42560 V) ∧ Gr w1 w')
  (hQ : ∀ (wx : World) (t1 : Bool) (b1 : Option Addr) (m1 d1 : Nat) (f1 V1 : Int) (t2 : Bool) (b2 : Option Addr) (m2 d2 : Nat) (f2 V2 : Int) (t3 : Bool) (b3 : Option Addr) (m3 d3 : Nat) (f3 V3 : Int), Gr w wx → wx.heap[β1]? = some (.cells #[.bool t1, .slice b1 m1 d1, .int .i64 f1] 24) → wx.heap[β2]? = some (.cells #[.bool t2, .slice b2 m2 d2, .int .i64 f2] 24) → wx.heap[β3]? = some (.cells #[.bool t3, .slice b3 m3 d3, .int .i64 f3] 24) → DyV wx t1 b1 m1 d1 f1 V1 → Gd 20000 42560 V1 → DyV wx t2 b2 m2 d2 f2 V2 → Gd 20000 42560 V2 → DyV wx t3 b3 m3 d3 f3 V3 → Gd 20000 42560 V3 → Q .normal (Cn a (.agg #[.bool s1, .slice a1 n1 c1, .int .i64 e1]) (.agg #[.bool t1, .slice b1 m1 d1, .int .i64 f1]) (.agg #[.bool s2, .slice a2 n2 c2, .int .i64 e2]) (.agg #[.bool t2, .slice b2 m2 d2, .int .i64 f2]) (.agg #[.bool s3, .slice a3 n3 c3, .int .i64 e3]) (.agg #[.bool t3, .slice b3 m3 d3, .int .i64 f3])) wx)
include h hb1 hb2 hb3 K1 K2 K3 hQ
theorem st333 (wx : World) (t1 : Bool) (b1 : Option Addr) (m1 d1 : Nat) (f1 V1 : Int) (t2 : Bool) (b2 : Option Addr) (m2 d2 : Nat) (f2 V2 : Int) (t3 : Bool) (b3 : Option Addr) (m3 d3 : Nat) (f3 V3 : Int) (g : Gr w wx) (P1 : wx.heap[β1]? = some (.cells #[.bool t1, .slice b1 m1 d1, .int .i64 f1] 24)) (P2 : wx.heap[β2]? = some (.cells #[.bool t2, .slice b2 m2 d2, .int .i64 f2] 24)) (P3 : wx.heap[β3]? = some (.cells #[.bool t3, .slice b3 m3 d3, .int .i64 f3] 24)) (D1 : DyV wx t1 b1 m1 d1 f1 V1) (Q1 : Gd 20000 42560 V1) (D2 : DyV wx t2 b2 m2 d2 f2 V2) (Q2 : Gd 20000 42560 V2) (D3 : DyV wx t3 b3 m3 d3 f3 V3) (Q3 : Gd 20000 42560 V3) : wpAny Tryd.prog .any ops Q 0 #[true, true, true, true, true, true, true, true, true] (Cn a (.agg #[.bool s1, .slice a1 n1 c1, .int .i64 e1]) (.agg #[.bool t1, .slice b1 m1 d1, .int .i64 f1]) (.agg #[.bool s2, .slice a2 n2 c2, .int .i64 e2]) (.agg #[.bool t2, .slice b2 m2 d2, .int .i64 f2]) (.agg #[.bool s3, .slice a3 n3 c3, .int .i64 e3]) (.agg #[.bool t3, .slice b3 m3 d3, .int .i64 f3])) wx := by
  exact wpAny_done h.r333 (hQ wx t1 b1 m1 d1 f1 V1 t2 b2 m2 d2 f2 V2 t3 b3 m3 d3 f3 V3 g P1 P2 P3 D1 Q1 D2 Q2 D3 Q3) _
theorem st332 (wx : World) (t1 : Bool) (b1 : Option Addr) (m1 d1 : Nat) (f1 V1 : Int) (t2 : Bool) (b2 : Option Addr) (m2 d2 : Nat) (f2 V2 : Int) (t3 : Bool) (b3 : Option Addr) (m3 d3 : Nat) (f3 V3 : Int) (g : Gr w wx) (P1 : wx.heap[β1]? = some (.cells #[.bool t1, .slice b1 m1 d1, .int .i64 f1] 24)) (P2 : wx.heap[β2]? = some (.cells #[.bool t2, .slice b2 m2 d2, .int .i64 f2] 24)) (P3 : wx.heap[β3]? = some (.cells #[.bool s3, .slice a3 n3 c3, .int .i64 e3] 24)) (D1 : DyV wx t1 b1 m1 d1 f1 V1) (Q1 : Gd 20000 42560 V1) (D2 : DyV wx t2 b2 m2 d2 f2 V2) (Q2 : Gd 20000 42560 V2) (D3 : DyV wx t3 b3 m3 d3 f3 V3) (Q3 : Gd 20000 42560 V3) : wpAny Tryd.prog .any ops Q 1 #[true, true, true, true, true, true, true, true, false] (Cn a (.agg #[.bool s1, .slice a1 n1 c1, .int .i64 e1]) (.agg #[.bool t1, .slice b1 m1 d1, .int .i64 f1]) (.agg #[.bool s2, .slice a2 n2 c2, .int .i64 e2]) (.agg #[.bool t2, .slice b2 m2 d2, .int .i64 f2]) (.agg #[.bool s3, .slice a3 n3 c3, .int .i64 e3]) (.agg #[.bool t3, .slice b3 m3 d3, .int .i64 f3])) wx := by
  refine wpAny_all h.r332 (by simp) ?_
  intro i hi
  simp only [List.mem_cons, List.not_mem_nil, or_false] at hi
  subst hi
  · obtain ⟨o, hi, hg, ho, hd⟩ := h.z3
    refine step_store hi hg ho hd ((Cn_low _ _ _ _ _ _ _ _ (by omega)).trans h.e3) (Cn_at _ _ _ _ _ _ _ h.sz).2.2.2.2.2 P3 ?_
    exact st333 h hb1 hb2 hb3 K1 K2 K3 hQ _ t1 b1 m1 d1 f1 V1 t2 b2 m2 d2 f2 V2 t3 b3 m3 d3 f3 V3 (g.s3 hb3 _ _ _) (S3_far h.n13 _ _ _ P1) (S3_far h.n23 _ _ _ P2) (S3_block P3) (D1.s3 P3 _ _ _) Q1 (D2.s3 P3 _ _ _) Q2 (D3.s3 P3 _ _ _) Q3
theorem st322 (wx : World) (t1 : Bool) (b1 : Option Addr) (m1 d1 : Nat) (f1 V1 : Int) (t2 : Bool) (b2 : Option Addr) (m2 d2 : Nat) (f2 V2 : Int) (t3 : Bool) (b3 : Option Addr) (m3 d3 : Nat) (f3 V3 : Int) (g : Gr w wx) (P1 : wx.heap[β1]? = some (.cells #[.bool t1, .slice b1 m1 d1, .int .i64 f1] 24)) (P2 : wx.heap[β2]? = some (.cells #[.bool s2, .slice a2 n2 c2, .int .i64 e2] 24)) (P3 : wx.heap[β3]? = some (.cells #[.bool s3, .slice a3 n3 c3, .int .i64 e3] 24)) (D1 : DyV wx t1 b1 m1 d1 f1 V1) (Q1 : Gd 20000 42560 V1) (D2 : DyV wx t2 b2 m2 d2 f2 V2) (Q2 : Gd 20000 42560 V2) (D3 : DyV wx t3 b3 m3 d3 f3 V3) (Q3 : Gd 20000 42560 V3) : wpAny Tryd.prog .any ops Q 2 #[true, true, true, true, true, true, true, false, false] (Cn a (.agg #[.bool s1, .slice a1 n1 c1, .int .i64 e1]) (.agg #[.bool t1, .slice b1 m1 d1, .int .i64 f1]) (.agg #[.bool s2, .slice a2 n2 c2, .int .i64 e2]) (.agg #[.bool t2, .slice b2 m2 d2, .int .i64 f2]) (.agg #[.bool s3, .slice a3 n3 c3, .int .i64 e3]) (.agg #[.bool t3, .slice b3 m3 d3, .int .i64 f3])) wx := by
  refine wpAny_all h.r322 (by simp) ?_
  intro i hi
  simp only [List.mem_cons, List.not_mem_nil, or_false] at hi
  subst hi
  · obtain ⟨o, hi, hg, ho, hd⟩ := h.z2
    refine step_store hi hg ho hd ((Cn_low _ _ _ _ _ _ _ _ (by omega)).trans h.e2) (Cn_at _ _ _ _ _ _ _ h.sz).2.2.2.1 P2 ?_
    exact st332 h hb1 hb2 hb3 K1 K2 K3 hQ _ t1 b1 m1 d1 f1 V1 t2 b2 m2 d2 f2 V2 t3 b3 m3 d3 f3 V3 (g.s3 hb2 _ _ _) (S3_far h.n12 _ _ _ P1) (S3_block P2) (S3_far (Ne.symm h.n23) _ _ _ P3) (D1.s3 P2 _ _ _) Q1 (D2.s3 P2 _ _ _) Q2 (D3.s3 P2 _ _ _) Q3
theorem st222 (wx : World) (t1 : Bool) (b1 : Option Addr) (m1 d1 : Nat) (f1 V1 : Int) (t2 : Bool) (b2 : Option Addr) (m2 d2 : Nat) (f2 V2 : Int) (t3 : Bool) (b3 : Option Addr) (m3 d3 : Nat) (f3 V3 : Int) (g : Gr w wx) (P1 : wx.heap[β1]? = some (.cells #[.bool s1, .slice a1 n1 c1, .int .i64 e1] 24)) (P2 : wx.heap[β2]? = some (.cells #[.bool s2, .slice a2 n2 c2, .int .i64 e2] 24)) (P3 : wx.heap[β3]? = some (.cells #[.bool s3, .slice a3 n3 c3, .int .i64 e3] 24)) (D1 : DyV wx t1 b1 m1 d1 f1 V1) (Q1 : Gd 20000 42560 V1) (D2 : DyV wx t2 b2 m2 d2 f2 V2) (Q2 : Gd 20000 42560 V2) (D3 : DyV wx t3 b3 m3 d3 f3 V3) (Q3 : Gd 20000 42560 V3) : wpAny Tryd.prog .any ops Q 3 #[true, true, true, true, true, true, false, false, false] (Cn a (.agg #[.bool s1, .slice a1 n1 c1, .int .i64 e1]) (.agg #[.bool t1, .slice b1 m1 d1, .int .i64 f1]) (.agg #[.bool s2, .slice a2 n2 c2, .int .i64 e2]) (.agg #[.bool t2, .slice b2 m2 d2, .int .i64 f2]) (.agg #[.bool s3, .slice a3 n3 c3, .int .i64 e3]) (.agg #[.bool t3, .slice b3 m3 d3, .int .i64 f3])) wx := by
  refine wpAny_all h.r222 (by simp) ?_
  intro i hi
  simp only [List.mem_cons, List.not_mem_nil, or_false] at hi
  subst hi
  · obtain ⟨o, hi, hg, ho, hd⟩ := h.z1
    refine step_store hi hg ho hd ((Cn_low _ _ _ _ _ _ _ _ (by omega)).trans h.e1) (Cn_at _ _ _ _ _ _ _ h.sz).2.1 P1 ?_
    exact st322 h hb1 hb2 hb3 K1 K2 K3 hQ _ t1 b1 m1 d1 f1 V1 t2 b2 m2 d2 f2 V2 t3 b3 m3 d3 f3 V3 (g.s3 hb1 _ _ _) (S3_block P1) (S3_far (Ne.symm h.n12) _ _ _ P2) (S3_far (Ne.symm h.n13) _ _ _ P3) (D1.s3 P1 _ _ _) Q1 (D2.s3 P1 _ _ _) Q2 (D3.s3 P1 _ _ _) Q3
theorem st221 (wx : World) (t1 : Bool) (b1 : Option Addr) (m1 d1 : Nat) (f1 V1 : Int) (t2 : Bool) (b2 : Option Addr) (m2 d2 : Nat) (f2 V2 : Int) (g : Gr w wx) (P1 : wx.heap[β1]? = some (.cells #[.bool s1, .slice a1 n1 c1, .int .i64 e1] 24)) (P2 : wx.heap[β2]? = some (.cells #[.bool s2, .slice a2 n2 c2, .int .i64 e2] 24)) (P3 : wx.heap[β3]? = some (.cells #[.bool s3, .slice a3 n3 c3, .int .i64 e3] 24)) (D1 : DyV wx t1 b1 m1 d1 f1 V1) (Q1 : Gd 20000 42560 V1) (D2 : DyV wx t2 b2 m2 d2 f2 V2) (Q2 : Gd 20000 42560 V2) : wpAny Tryd.prog .any ops Q 4 #[true, true, true, true, true, false, false, false, false] (Cn a (.agg #[.bool s1, .slice a1 n1 c1, .int .i64 e1]) (.agg #[.bool t1, .slice b1 m1 d1, .int .i64 f1]) (.agg #[.bool s2, .slice a2 n2 c2, .int .i64 e2]) (.agg #[.bool t2, .slice b2 m2 d2, .int .i64 f2]) (.agg #[.bool s3, .slice a3 n3 c3, .int .i64 e3]) undef) wx := by
  refine wpAny_all h.r221 (by simp) ?_
  intro i hi
  simp only [List.mem_cons, List.not_mem_nil, or_false] at hi
  subst hi
  · obtain ⟨o, hi, hg, ho, hd⟩ := h.k3
    refine step_call hi hg ho (Cn_at _ _ _ _ _ _ _ h.sz).2.2.2.2.1 (K3 wx g) ?_
    rintro r w' ⟨t3, b3, m3, d3, f3, V3, rfl, D3, Q3, j⟩
    refine ⟨_, rfl, ?_⟩
    rw [hd, Cn_6]
    exact st222 h hb1 hb2 hb3 K1 K2 K3 hQ w' t1 b1 m1 d1 f1 V1 t2 b2 m2 d2 f2 V2 t3 b3 m3 d3 f3 V3 (g.trans j) (j.keepH P1) (j.keepH P2) (j.keepH P3) (D1.gr j) Q1 (D2.gr j) Q2 D3.out Q3
theorem st211 (wx : World) (t1 : Bool) (b1 : Option Addr) (m1 d1 : Nat) (f1 V1 : Int) (g : Gr w wx) (P1 : wx.heap[β1]? = some (.cells #[.bool s1, .slice a1 n1 c1, .int .i64 e1] 24)) (P2 : wx.heap[β2]? = some (.cells #[.bool s2, .slice a2 n2 c2, .int .i64 e2] 24)) (P3 : wx.heap[β3]? = some (.cells #[.bool s3, .slice a3 n3 c3, .int .i64 e3] 24)) (D1 : DyV wx t1 b1 m1 d1 f1 V1) (Q1 : Gd 20000 42560 V1) : wpAny Tryd.prog .any ops Q 5 #[true, true, true, false, true, false, false, false, false] (Cn a (.agg #[.bool s1, .slice a1 n1 c1, .int .i64 e1]) (.agg #[.bool t1, .slice b1 m1 d1, .int .i64 f1]) (.agg #[.bool s2, .slice a2 n2 c2, .int .i64 e2]) undef (.agg #[.bool s3, .slice a3 n3 c3, .int .i64 e3]) undef) wx := by
  refine wpAny_all h.r211 (by simp) ?_
  intro i hi
  simp only [List.mem_cons, List.not_mem_nil, or_false] at hi
  subst hi
  · obtain ⟨o, hi, hg, ho, hd⟩ := h.k2
    refine step_call hi hg ho (Cn_at _ _ _ _ _ _ _ h.sz).2.2.1 (K2 wx g) ?_
    rintro r w' ⟨t2, b2, m2, d2, f2, V2, rfl, D2, Q2, j⟩
    refine ⟨_, rfl, ?_⟩
    rw [hd, Cn_4]
    exact st221 h hb1 hb2 hb3 K1 K2 K3 hQ w' t1 b1 m1 d1 f1 V1 t2 b2 m2 d2 f2 V2 (g.trans j) (j.keepH P1) (j.keepH P2) (j.keepH P3) (D1.gr j) Q1 D2.out Q2
theorem st220 (wx : World) (t1 : Bool) (b1 : Option Addr) (m1 d1 : Nat) (f1 V1 : Int) (t2 : Bool) (b2 : Option Addr) (m2 d2 : Nat) (f2 V2 : Int) (g : Gr w wx) (P1 : wx.heap[β1]? = some (.cells #[.bool s1, .slice a1 n1 c1, .int .i64 e1] 24)) (P2 : wx.heap[β2]? = some (.cells #[.bool s2, .slice a2 n2 c2, .int .i64 e2] 24)) (P3 : wx.heap[β3]? = some (.cells #[.bool s3, .slice a3 n3 c3, .int .i64 e3] 24)) (D1 : DyV wx t1 b1 m1 d1 f1 V1) (Q1 : Gd 20000 42560 V1) (D2 : DyV wx t2 b2 m2 d2 f2 V2) (Q2 : Gd 20000 42560 V2) : wpAny Tryd.prog .any ops Q 5 #[true, true, true, true, false, false, false, false, false] (Cn a (.agg #[.bool s1, .slice a1 n1 c1, .int .i64 e1]) (.agg #[.bool t1, .slice b1 m1 d1, .int .i64 f1]) (.agg #[.bool s2, .slice a2 n2 c2, .int .i64 e2]) (.agg #[.bool t2, .slice b2 m2 d2, .int .i64 f2]) undef undef) wx := by
  refine wpAny_all h.r220 (by simp) ?_
  intro i hi
  simp only [List.mem_cons, List.not_mem_nil, or_false] at hi
  subst hi
  · obtain ⟨o, hi, hg, ho, hd⟩ := h.l3
    refine step_load hi hg ho ((Cn_low _ _ _ _ _ _ _ _ (by omega)).trans h.e3) P3 ?_
    rw [hd, Cn_5]
    exact st221 h hb1 hb2 hb3 K1 K2 K3 hQ wx t1 b1 m1 d1 f1 V1 t2 b2 m2 d2 f2 V2 g P1 P2 P3 D1 Q1 D2 Q2
theorem st111 (wx : World) (g : Gr w wx) (P1 : wx.heap[β1]? = some (.cells #[.bool s1, .slice a1 n1 c1, .int .i64 e1] 24)) (P2 : wx.heap[β2]? = some (.cells #[.bool s2, .slice a2 n2 c2, .int .i64 e2] 24)) (P3 : wx.heap[β3]? = some (.cells #[.bool s3, .slice a3 n3 c3, .int .i64 e3] 24)) : wpAny Tryd.prog .any ops Q 6 #[true, false, true, false, true, false, false, false, false] (Cn a (.agg #[.bool s1, .slice a1 n1 c1, .int .i64 e1]) undef (.agg #[.bool s2, .slice a2 n2 c2, .int .i64 e2]) undef (.agg #[.bool s3, .slice a3 n3 c3, .int .i64 e3]) undef) wx := by
  refine wpAny_all h.r111 (by simp) ?_
  intro i hi
  simp only [List.mem_cons, List.not_mem_nil, or_false] at hi
  subst hi
  · obtain ⟨o, hi, hg, ho, hd⟩ := h.k1
    refine step_call hi hg ho (Cn_at _ _ _ _ _ _ _ h.sz).1 (K1 wx g) ?_
    rintro r w' ⟨t1, b1, m1, d1, f1, V1, rfl, D1, Q1, j⟩
    refine ⟨_, rfl, ?_⟩
    rw [hd, Cn_2]
    exact st211 h hb1 hb2 hb3 K1 K2 K3 hQ w' t1 b1 m1 d1 f1 V1 (g.trans j) (j.keepH P1) (j.keepH P2) (j.keepH P3) D1.out Q1
theorem st201 (wx : World) (t1 : Bool) (b1 : Option Addr) (m1 d1 : Nat) (f1 V1 : Int) (g : Gr w wx) (P1 : wx.heap[β1]? = some (.cells #[.bool s1, .slice a1 n1 c1, .int .i64 e1] 24)) (P2 : wx.heap[β2]? = some (.cells #[.bool s2, .slice a2 n2 c2, .int .i64 e2] 24)) (P3 : wx.heap[β3]? = some (.cells #[.bool s3, .slice a3 n3 c3, .int .i64 e3] 24)) (D1 : DyV wx t1 b1 m1 d1 f1 V1) (Q1 : Gd 20000 42560 V1) : wpAny Tryd.prog .any ops Q 6 #[true, true, false, false, true, false, false, false, false] (Cn a (.agg #[.bool s1, .slice a1 n1 c1, .int .i64 e1]) (.agg #[.bool t1, .slice b1 m1 d1, .int .i64 f1]) undef undef (.agg #[.bool s3, .slice a3 n3 c3, .int .i64 e3]) undef) wx := by
  refine wpAny_all h.r201 (by simp) ?_
  intro i hi
  simp only [List.mem_cons, List.not_mem_nil, or_false] at hi
  subst hi
  · obtain ⟨o, hi, hg, ho, hd⟩ := h.l2
    refine step_load hi hg ho ((Cn_low _ _ _ _ _ _ _ _ (by omega)).trans h.e2) P2 ?_
    rw [hd, Cn_3]
    exact st211 h hb1 hb2 hb3 K1 K2 K3 hQ wx t1 b1 m1 d1 f1 V1 g P1 P2 P3 D1 Q1
theorem st210 (wx : World) (t1 : Bool) (b1 : Option Addr) (m1 d1 : Nat) (f1 V1 : Int) (g : Gr w wx) (P1 : wx.heap[β1]? = some (.cells #[.bool s1, .slice a1 n1 c1, .int .i64 e1] 24)) (P2 : wx.heap[β2]? = some (.cells #[.bool s2, .slice a2 n2 c2, .int .i64 e2] 24)) (P3 : wx.heap[β3]? = some (.cells #[.bool s3, .slice a3 n3 c3, .int .i64 e3] 24)) (D1 : DyV wx t1 b1 m1 d1 f1 V1) (Q1 : Gd 20000 42560 V1) : wpAny Tryd.prog .any ops Q 6 #[true, true, true, false, false, false, false, false, false] (Cn a (.agg #[.bool s1, .slice a1 n1 c1, .int .i64 e1]) (.agg #[.bool t1, .slice b1 m1 d1, .int .i64 f1]) (.agg #[.bool s2, .slice a2 n2 c2, .int .i64 e2]) undef undef undef) wx := by
  refine wpAny_all h.r210 (by simp) ?_
  intro i hi
  simp only [List.mem_cons, List.not_mem_nil, or_false] at hi
  rcases hi with rfl | rfl
  · obtain ⟨o, hi, hg, ho, hd⟩ := h.k2
    refine step_call hi hg ho (Cn_at _ _ _ _ _ _ _ h.sz).2.2.1 (K2 wx g) ?_
    rintro r w' ⟨t2, b2, m2, d2, f2, V2, rfl, D2, Q2, j⟩
    refine ⟨_, rfl, ?_⟩
    rw [hd, Cn_4]
    exact st220 h hb1 hb2 hb3 K1 K2 K3 hQ w' t1 b1 m1 d1 f1 V1 t2 b2 m2 d2 f2 V2 (g.trans j) (j.keepH P1) (j.keepH P2) (j.keepH P3) (D1.gr j) Q1 D2.out Q2
  · obtain ⟨o, hi, hg, ho, hd⟩ := h.l3
    refine step_load hi hg ho ((Cn_low _ _ _ _ _ _ _ _ (by omega)).trans h.e3) P3 ?_
    rw [hd, Cn_5]
    exact st211 h hb1 hb2 hb3 K1 K2 K3 hQ wx t1 b1 m1 d1 f1 V1 g P1 P2 P3 D1 Q1
theorem st011 (wx : World) (g : Gr w wx) (P1 : wx.heap[β1]? = some (.cells #[.bool s1, .slice a1 n1 c1, .int .i64 e1] 24)) (P2 : wx.heap[β2]? = some (.cells #[.bool s2, .slice a2 n2 c2, .int .i64 e2] 24)) (P3 : wx.heap[β3]? = some (.cells #[.bool s3, .slice a3 n3 c3, .int .i64 e3] 24)) : wpAny Tryd.prog .any ops Q 7 #[false, false, true, false, true, false, false, false, false] (Cn a undef undef (.agg #[.bool s2, .slice a2 n2 c2, .int .i64 e2]) undef (.agg #[.bool s3, .slice a3 n3 c3, .int .i64 e3]) undef) wx := by
  refine wpAny_all h.r011 (by simp) ?_
  intro i hi
  simp only [List.mem_cons, List.not_mem_nil, or_false] at hi
  subst hi
  · obtain ⟨o, hi, hg, ho, hd⟩ := h.l1
    refine step_load hi hg ho ((Cn_low _ _ _ _ _ _ _ _ (by omega)).trans h.e1) P1 ?_
    rw [hd, Cn_1]
    exact st111 h hb1 hb2 hb3 K1 K2 K3 hQ wx g P1 P2 P3
theorem st101 (wx : World) (g : Gr w wx) (P1 : wx.heap[β1]? = some (.cells #[.bool s1, .slice a1 n1 c1, .int .i64 e1] 24)) (P2 : wx.heap[β2]? = some (.cells #[.bool s2, .slice a2 n2 c2, .int .i64 e2] 24)) (P3 : wx.heap[β3]? = some (.cells #[.bool s3, .slice a3 n3 c3, .int .i64 e3] 24)) : wpAny Tryd.prog .any ops Q 7 #[true, false, false, false, true, false, false, false, false] (Cn a (.agg #[.bool s1, .slice a1 n1 c1, .int .i64 e1]) undef undef undef (.agg #[.bool s3, .slice a3 n3 c3, .int .i64 e3]) undef) wx := by
  refine wpAny_all h.r101 (by simp) ?_
  intro i hi
  simp only [List.mem_cons, List.not_mem_nil, or_false] at hi
  rcases hi with rfl | rfl
  · obtain ⟨o, hi, hg, ho, hd⟩ := h.k1
    refine step_call hi hg ho (Cn_at _ _ _ _ _ _ _ h.sz).1 (K1 wx g) ?_
    rintro r w' ⟨t1, b1, m1, d1, f1, V1, rfl, D1, Q1, j⟩
    refine ⟨_, rfl, ?_⟩
    rw [hd, Cn_2]
    exact st201 h hb1 hb2 hb3 K1 K2 K3 hQ w' t1 b1 m1 d1 f1 V1 (g.trans j) (j.keepH P1) (j.keepH P2) (j.keepH P3) D1.out Q1
  · obtain ⟨o, hi, hg, ho, hd⟩ := h.l2
    refine step_load hi hg ho ((Cn_low _ _ _ _ _ _ _ _ (by omega)).trans h.e2) P2 ?_
    rw [hd, Cn_3]
    exact st111 h hb1 hb2 hb3 K1 K2 K3 hQ wx g P1 P2 P3
theorem st110 (wx : World) (g : Gr w wx) (P1 : wx.heap[β1]? = some (.cells #[.bool s1, .slice a1 n1 c1, .int .i64 e1] 24)) (P2 : wx.heap[β2]? = some (.cells #[.bool s2, .slice a2 n2 c2, .int .i64 e2] 24)) (P3 : wx.heap[β3]? = some (.cells #[.bool s3, .slice a3 n3 c3, .int .i64 e3] 24)) : wpAny Tryd.prog .any ops Q 7 #[true, false, true, false, false, false, false, false, false] (Cn a (.agg #[.bool s1, .slice a1 n1 c1, .int .i64 e1]) undef (.agg #[.bool s2, .slice a2 n2 c2, .int .i64 e2]) undef undef undef) wx := by
  refine wpAny_all h.r110 (by simp) ?_
  intro i hi
  simp only [List.mem_cons, List.not_mem_nil, or_false] at hi
  rcases hi with rfl | rfl
  · obtain ⟨o, hi, hg, ho, hd⟩ := h.k1
    refine step_call hi hg ho (Cn_at _ _ _ _ _ _ _ h.sz).1 (K1 wx g) ?_
    rintro r w' ⟨t1, b1, m1, d1, f1, V1, rfl, D1, Q1, j⟩
    refine ⟨_, rfl, ?_⟩
    rw [hd, Cn_2]
    exact st210 h hb1 hb2 hb3 K1 K2 K3 hQ w' t1 b1 m1 d1 f1 V1 (g.trans j) (j.keepH P1) (j.keepH P2) (j.keepH P3) D1.out Q1
  · obtain ⟨o, hi, hg, ho, hd⟩ := h.l3
    refine step_load hi hg ho ((Cn_low _ _ _ _ _ _ _ _ (by omega)).trans h.e3) P3 ?_
    rw [hd, Cn_5]
    exact st111 h hb1 hb2 hb3 K1 K2 K3 hQ wx g P1 P2 P3
theorem st200 (wx : World) (t1 : Bool) (b1 : Option Addr) (m1 d1 : Nat) (f1 V1 : Int) (g : Gr w wx) (P1 : wx.heap[β1]? = some (.cells #[.bool s1, .slice a1 n1 c1, .int .i64 e1] 24)) (P2 : wx.heap[β2]? = some (.cells #[.bool s2, .slice a2 n2 c2, .int .i64 e2] 24)) (P3 : wx.heap[β3]? = some (.cells #[.bool s3, .slice a3 n3 c3, .int .i64 e3] 24)) (D1 : DyV wx t1 b1 m1 d1 f1 V1) (Q1 : Gd 20000 42560 V1) : wpAny Tryd.prog .any ops Q 7 #[true, true, false, false, false, false, false, false, false] (Cn a (.agg #[.bool s1, .slice a1 n1 c1, .int .i64 e1]) (.agg #[.bool t1, .slice b1 m1 d1, .int .i64 f1]) undef undef undef undef) wx := by
  refine wpAny_all h.r200 (by simp) ?_
  intro i hi
  simp only [List.mem_cons, List.not_mem_nil, or_false] at hi
  rcases hi with rfl | rfl
  · obtain ⟨o, hi, hg, ho, hd⟩ := h.l2
    refine step_load hi hg ho ((Cn_low _ _ _ _ _ _ _ _ (by omega)).trans h.e2) P2 ?_
    rw [hd, Cn_3]
    exact st210 h hb1 hb2 hb3 K1 K2 K3 hQ wx t1 b1 m1 d1 f1 V1 g P1 P2 P3 D1 Q1
  · obtain ⟨o, hi, hg, ho, hd⟩ := h.l3
    refine step_load hi hg ho ((Cn_low _ _ _ _ _ _ _ _ (by omega)).trans h.e3) P3 ?_
    rw [hd, Cn_5]
    exact st201 h hb1 hb2 hb3 K1 K2 K3 hQ wx t1 b1 m1 d1 f1 V1 g P1 P2 P3 D1 Q1
theorem st001 (wx : World) (g : Gr w wx) (P1 : wx.heap[β1]? = some (.cells #[.bool s1, .slice a1 n1 c1, .int .i64 e1] 24)) (P2 : wx.heap[β2]? = some (.cells #[.bool s2, .slice a2 n2 c2, .int .i64 e2] 24)) (P3 : wx.heap[β3]? = some (.cells #[.bool s3, .slice a3 n3 c3, .int .i64 e3] 24)) : wpAny Tryd.prog .any ops Q 8 #[false, false, false, false, true, false, false, false, false] (Cn a undef undef undef undef (.agg #[.bool s3, .slice a3 n3 c3, .int .i64 e3]) undef) wx := by
  refine wpAny_all h.r001 (by simp) ?_
  intro i hi
  simp only [List.mem_cons, List.not_mem_nil, or_false] at hi
  rcases hi with rfl | rfl
  · obtain ⟨o, hi, hg, ho, hd⟩ := h.l1
    refine step_load hi hg ho ((Cn_low _ _ _ _ _ _ _ _ (by omega)).trans h.e1) P1 ?_
    rw [hd, Cn_1]
    exact st101 h hb1 hb2 hb3 K1 K2 K3 hQ wx g P1 P2 P3
  · obtain ⟨o, hi, hg, ho, hd⟩ := h.l2
    refine step_load hi hg ho ((Cn_low _ _ _ _ _ _ _ _ (by omega)).trans h.e2) P2 ?_
    rw [hd, Cn_3]
    exact st011 h hb1 hb2 hb3 K1 K2 K3 hQ wx g P1 P2 P3
theorem st010 (wx : World) (g : Gr w wx) (P1 : wx.heap[β1]? = some (.cells #[.bool s1, .slice a1 n1 c1, .int .i64 e1] 24)) (P2 : wx.heap[β2]? = some (.cells #[.bool s2, .slice a2 n2 c2, .int .i64 e2] 24)) (P3 : wx.heap[β3]? = some (.cells #[.bool s3, .slice a3 n3 c3, .int .i64 e3] 24)) : wpAny Tryd.prog .any ops Q 8 #[false, false, true, false, false, false, false, false, false] (Cn a undef undef (.agg #[.bool s2, .slice a2 n2 c2, .int .i64 e2]) undef undef undef) wx := by
  refine wpAny_all h.r010 (by simp) ?_
  intro i hi
  simp only [List.mem_cons, List.not_mem_nil, or_false] at hi
  rcases hi with rfl | rfl
  · obtain ⟨o, hi, hg, ho, hd⟩ := h.l1
    refine step_load hi hg ho ((Cn_low _ _ _ _ _ _ _ _ (by omega)).trans h.e1) P1 ?_
    rw [hd, Cn_1]
    exact st110 h hb1 hb2 hb3 K1 K2 K3 hQ wx g P1 P2 P3
  · obtain ⟨o, hi, hg, ho, hd⟩ := h.l3
    refine step_load hi hg ho ((Cn_low _ _ _ _ _ _ _ _ (by omega)).trans h.e3) P3 ?_
    rw [hd, Cn_5]
    exact st011 h hb1 hb2 hb3 K1 K2 K3 hQ wx g P1 P2 P3
theorem st100 (wx : World) (g : Gr w wx) (P1 : wx.heap[β1]? = some (.cells #[.bool s1, .slice a1 n1 c1, .int .i64 e1] 24)) (P2 : wx.heap[β2]? = some (.cells #[.bool s2, .slice a2 n2 c2, .int .i64 e2] 24)) (P3 : wx.heap[β3]? = some (.cells #[.bool s3, .slice a3 n3 c3, .int .i64 e3] 24)) : wpAny Tryd.prog .any ops Q 8 #[true, false, false, false, false, false, false, false, false] (Cn a (.agg #[.bool s1, .slice a1 n1 c1, .int .i64 e1]) undef undef undef undef undef) wx := by
  refine wpAny_all h.r100 (by simp) ?_
  intro i hi
  simp only [List.mem_cons, List.not_mem_nil, or_false] at hi
  rcases hi with rfl | rfl | rfl
  · obtain ⟨o, hi, hg, ho, hd⟩ := h.k1
    refine step_call hi hg ho (Cn_at _ _ _ _ _ _ _ h.sz).1 (K1 wx g) ?_
    rintro r w' ⟨t1, b1, m1, d1, f1, V1, rfl, D1, Q1, j⟩
    refine ⟨_, rfl, ?_⟩
    rw [hd, Cn_2]
    exact st200 h hb1 hb2 hb3 K1 K2 K3 hQ w' t1 b1 m1 d1 f1 V1 (g.trans j) (j.keepH P1) (j.keepH P2) (j.keepH P3) D1.out Q1
  · obtain ⟨o, hi, hg, ho, hd⟩ := h.l2
    refine step_load hi hg ho ((Cn_low _ _ _ _ _ _ _ _ (by omega)).trans h.e2) P2 ?_
    rw [hd, Cn_3]
    exact st110 h hb1 hb2 hb3 K1 K2 K3 hQ wx g P1 P2 P3
  · obtain ⟨o, hi, hg, ho, hd⟩ := h.l3
    refine step_load hi hg ho ((Cn_low _ _ _ _ _ _ _ _ (by omega)).trans h.e3) P3 ?_
    rw [hd, Cn_5]
    exact st101 h hb1 hb2 hb3 K1 K2 K3 hQ wx g P1 P2 P3
theorem st000 (wx : World) (g : Gr w wx) (P1 : wx.heap[β1]? = some (.cells #[.bool s1, .slice a1 n1 c1, .int .i64 e1] 24)) (P2 : wx.heap[β2]? = some (.cells #[.bool s2, .slice a2 n2 c2, .int .i64 e2] 24)) (P3 : wx.heap[β3]? = some (.cells #[.bool s3, .slice a3 n3 c3, .int .i64 e3] 24)) : wpAny Tryd.prog .any ops Q 9 #[false, false, false, false, false, false, false, false, false] (Cn a undef undef undef undef undef undef) wx := by
  refine wpAny_all h.r000 (by simp) ?_
  intro i hi
  simp only [List.mem_cons, List.not_mem_nil, or_false] at hi
  rcases hi with rfl | rfl | rfl
  · obtain ⟨o, hi, hg, ho, hd⟩ := h.l1
    refine step_load hi hg ho ((Cn_low _ _ _ _ _ _ _ _ (by omega)).trans h.e1) P1 ?_
    rw [hd, Cn_1]
    exact st100 h hb1 hb2 hb3 K1 K2 K3 hQ wx g P1 P2 P3
  · obtain ⟨o, hi, hg, ho, hd⟩ := h.l2
    refine step_load hi hg ho ((Cn_low _ _ _ _ _ _ _ _ (by omega)).trans h.e2) P2 ?_
    rw [hd, Cn_3]
    exact st010 h hb1 hb2 hb3 K1 K2 K3 hQ wx g P1 P2 P3
  · obtain ⟨o, hi, hg, ho, hd⟩ := h.l3
    refine step_load hi hg ho ((Cn_low _ _ _ _ _ _ _ _ (by omega)).trans h.e3) P3 ?_
    rw [hd, Cn_5]
    exact st001 h hb1 hb2 hb3 K1 K2 K3 hQ wx g P1 P2 P3
theorem lcs3 {id : Nat} (hm : Tryd.prog.follows .mixedOrders = true) (hs : ops.size = 9) (hu : Cn a undef undef undef undef undef undef = a) (w1 : World) (g : Gr w w1) (P1 : w1.heap[β1]? = some (.cells #[.bool s1, .slice a1 n1 c1, .int .i64 e1] 24)) (P2 : w1.heap[β2]? = some (.cells #[.bool s2, .slice a2 n2 c2, .int .i64 e2] 24)) (P3 : w1.heap[β3]? = some (.cells #[.bool s3, .slice a3 n3 c3, .int .i64 e3] 24)) : (Code.region id ops true).wp Tryd.prog Q a w1 := by
  refine wp_region_any hm ?_
  rw [hs]
  have := st000 h hb1 hb2 hb3 K1 K2 K3 hQ w1.drew g.drew P1 P2 P3
  rw [hu] at this
  exact this
end
end Go.Proofs.YtaiflkpanankcaaDoor
