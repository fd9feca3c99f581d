import Derived.Test.YtaofmkgfnhonaaaDoorXS
import Derived.Deep.DeepCutAuto
import Derived.Deep.RegionWith
namespace Go.Proofs.YtaofmkgfnhonaaaDoor
open Go.RowKit
set_option linter.unusedVariables false

/-- a box that holds a right dyad of that worth -/
structure Bx (w : World) (b : Nat) (s : Bool) (ad : Option Addr) (n cap : Nat) (e V : Int) : Prop where
  c0 : w.cell? ⟨b, 0, none⟩ = some (.bool s)
  c1 : w.cell? ⟨b, 1, none⟩ = some (.slice ad n cap)
  c2 : w.cell? ⟨b, 2, none⟩ = some (.int .i64 e)
  d : DyV w s ad n cap e V
theorem Bx.gr {w w' : World} {b : Nat} {s : Bool} {ad : Option Addr} {n cap : Nat} {e V : Int} (h : Bx w b s ad n cap e V) (g : Gr w w') : Bx w' b s ad n cap e V :=
  ⟨g.keep h.c0, g.keep h.c1, g.keep h.c2, h.d.gr g⟩
theorem Bx.new {w : World} {s : Bool} {ad : Option Addr} {n cap : Nat} {e V : Int} (h : DyV w s ad n cap e V) : Bx (w.alloc (.cells #[.bool s, .slice ad n cap, .int .i64 e] 24)) w.heap.size s ad n cap e V :=
  ⟨by simp, by simp, by simp, h.gr ((Gr.refl w).alloc _)⟩
theorem DyV.set3 {w : World} {s : Bool} {ad : Option Addr} {n cap : Nat} {e V : Int} (h : DyV w s ad n cap e V) {B2 : Nat} {p : Bool} {s0 : Option Addr} {l0 c0 : Nat} {i0 : Int} {T : TypeId} {fr : Nat × Nat} (hb : w.heap[B2]? = some (.cells #[.bool p, .slice s0 l0 c0, .int .i64 i0] T fr)) (v0 v1 v2 : Value) :
    DyV (((w.setCell ⟨B2, 0, none⟩ v0).setCell ⟨B2, 1, none⟩ v1).setCell ⟨B2, 2, none⟩ v2) s ad n cap e V := by
  obtain ⟨x, hd, hV⟩ := h
  exact ⟨x, ⟨hd.lim.set3 (hd.lim.apart hb) _ _ _, hd.le, hd.right⟩, hV⟩
theorem heap_set3 {w : World} {B2 b : Nat} (hne : b ≠ B2) (v0 v1 v2 : Value) : (((w.setCell ⟨B2, 0, none⟩ v0).setCell ⟨B2, 1, none⟩ v1).setCell ⟨B2, 2, none⟩ v2).heap[b]? = w.heap[b]? := by
  rw [Below.heap_setCell _ _ _ _ hne, Below.heap_setCell _ _ _ _ hne, Below.heap_setCell _ _ _ _ hne]
def S3 (w : World) (b : Nat) (v0 v1 v2 : Value) : World := ((w.setCell ⟨b, 0, none⟩ v0).setCell ⟨b, 1, none⟩ v1).setCell ⟨b, 2, none⟩ v2
/-- three boxes written over with what known told -/
theorem put3 {W w : World} (hG : Gr W w) {b1 b2 b3 : Nat} (h1 : W.heap.size ≤ b1) (h2 : W.heap.size ≤ b2) (h3 : W.heap.size ≤ b3) (n12 : b1 ≠ b2) (n13 : b1 ≠ b3) (n23 : b2 ≠ b3)
    {p1 p2 p3 : Bool} {q1 q2 q3 : Option Addr} {l1 l2 l3 k1 k2 k3 : Nat} {i1 i2 i3 : Int} (H1 : w.heap[b1]? = some (.cells #[.bool p1, .slice q1 l1 k1, .int .i64 i1] 24)) (H2 : w.heap[b2]? = some (.cells #[.bool p2, .slice q2 l2 k2, .int .i64 i2] 24)) (H3 : w.heap[b3]? = some (.cells #[.bool p3, .slice q3 l3 k3, .int .i64 i3] 24))
    {s1 s2 s3 : Bool} {a1 a2 a3 : Option Addr} {n1 n2 n3 c1 c2 c3 : Nat} {e1 e2 e3 U V Z : Int} (D1 : DyV w s1 a1 n1 c1 e1 U) (D2 : DyV w s2 a2 n2 c2 e2 V) (D3 : DyV w s3 a3 n3 c3 e3 Z) :
    Bx (S3 (S3 (S3 w b1 (.bool s1) (.slice a1 n1 c1) (.int .i64 e1)) b2 (.bool s2) (.slice a2 n2 c2) (.int .i64 e2)) b3 (.bool s3) (.slice a3 n3 c3) (.int .i64 e3)) b1 s1 a1 n1 c1 e1 U ∧
    Bx (S3 (S3 (S3 w b1 (.bool s1) (.slice a1 n1 c1) (.int .i64 e1)) b2 (.bool s2) (.slice a2 n2 c2) (.int .i64 e2)) b3 (.bool s3) (.slice a3 n3 c3) (.int .i64 e3)) b2 s2 a2 n2 c2 e2 V ∧
    Bx (S3 (S3 (S3 w b1 (.bool s1) (.slice a1 n1 c1) (.int .i64 e1)) b2 (.bool s2) (.slice a2 n2 c2) (.int .i64 e2)) b3 (.bool s3) (.slice a3 n3 c3) (.int .i64 e3)) b3 s3 a3 n3 c3 e3 Z ∧
    Gr W (S3 (S3 (S3 w b1 (.bool s1) (.slice a1 n1 c1) (.int .i64 e1)) b2 (.bool s2) (.slice a2 n2 c2) (.int .i64 e2)) b3 (.bool s3) (.slice a3 n3 c3) (.int .i64 e3)) := by
  have cells : ∀ (x : World) (b : Nat) (v0 v1 v2 a0 a1 a2 : Value), x.heap[b]? = some (.cells #[a0, a1, a2] 24) → (S3 x b v0 v1 v2).cell? ⟨b, 0, none⟩ = some v0 ∧ (S3 x b v0 v1 v2).cell? ⟨b, 1, none⟩ = some v1 ∧ (S3 x b v0 v1 v2).cell? ⟨b, 2, none⟩ = some v2 := fun x b v0 v1 v2 a0 a1 a2 hb =>
    set3_at (a0 := a0) (a1 := a1) (a2 := a2) (by simp [World.cell?, hb]) (by simp [World.cell?, hb]) (by simp [World.cell?, hb])
  have gr3 : ∀ (x : World) (b : Nat) (v0 v1 v2 : Value), W.heap.size ≤ b → Gr W x → Gr W (S3 x b v0 v1 v2) := fun x b v0 v1 v2 hb g => ((g.setCell (p := ⟨b, 0, none⟩) hb _).setCell (p := ⟨b, 1, none⟩) hb _).setCell (p := ⟨b, 2, none⟩) hb _
  have x1 := cells w b1 (.bool s1) (.slice a1 n1 c1) (.int .i64 e1) _ _ _ H1
  have d1 : DyV (S3 w b1 (.bool s1) (.slice a1 n1 c1) (.int .i64 e1)) s1 a1 n1 c1 e1 U := D1.set3 H1 _ _ _
  have d2 : DyV (S3 w b1 (.bool s1) (.slice a1 n1 c1) (.int .i64 e1)) s2 a2 n2 c2 e2 V := D2.set3 H1 _ _ _
  have d3 : DyV (S3 w b1 (.bool s1) (.slice a1 n1 c1) (.int .i64 e1)) s3 a3 n3 c3 e3 Z := D3.set3 H1 _ _ _
  have g1 := gr3 w b1 (.bool s1) (.slice a1 n1 c1) (.int .i64 e1) h1 hG
  have H2' : (S3 w b1 (.bool s1) (.slice a1 n1 c1) (.int .i64 e1)).heap[b2]? = _ := (heap_set3 (Ne.symm n12) _ _ _).trans H2
  have H3' : (S3 w b1 (.bool s1) (.slice a1 n1 c1) (.int .i64 e1)).heap[b3]? = _ := (heap_set3 (Ne.symm n13) _ _ _).trans H3
  clear H1 H2 H3 D1 D2 D3 hG
  generalize S3 w b1 (.bool s1) (.slice a1 n1 c1) (.int .i64 e1) = wa at *
  have x2 := cells wa b2 (.bool s2) (.slice a2 n2 c2) (.int .i64 e2) _ _ _ H2'
  have y1 : Bx (S3 wa b2 (.bool s2) (.slice a2 n2 c2) (.int .i64 e2)) b1 s1 a1 n1 c1 e1 U := ⟨set3_far (Ne.symm n12) x1.1, set3_far (Ne.symm n12) x1.2.1, set3_far (Ne.symm n12) x1.2.2, d1.set3 H2' _ _ _⟩
  have d2' : DyV (S3 wa b2 (.bool s2) (.slice a2 n2 c2) (.int .i64 e2)) s2 a2 n2 c2 e2 V := d2.set3 H2' _ _ _
  have d3' : DyV (S3 wa b2 (.bool s2) (.slice a2 n2 c2) (.int .i64 e2)) s3 a3 n3 c3 e3 Z := d3.set3 H2' _ _ _
  have g2 := gr3 wa b2 (.bool s2) (.slice a2 n2 c2) (.int .i64 e2) h2 g1
  have H3'' : (S3 wa b2 (.bool s2) (.slice a2 n2 c2) (.int .i64 e2)).heap[b3]? = _ := (heap_set3 (Ne.symm n23) _ _ _).trans H3'
  clear H2' H3' d1 d2 d3 g1 x1
  generalize S3 wa b2 (.bool s2) (.slice a2 n2 c2) (.int .i64 e2) = wb at *
  have x3 := cells wb b3 (.bool s3) (.slice a3 n3 c3) (.int .i64 e3) _ _ _ H3''
  refine ⟨⟨set3_far (Ne.symm n13) y1.c0, set3_far (Ne.symm n13) y1.c1, set3_far (Ne.symm n13) y1.c2, y1.d.set3 H3'' _ _ _⟩, ⟨set3_far (Ne.symm n23) x2.1, set3_far (Ne.symm n23) x2.2.1, set3_far (Ne.symm n23) x2.2.2, d2'.set3 H3'' _ _ _⟩, ⟨x3.1, x3.2.1, x3.2.2, d3'.set3 H3'' _ _ _⟩, gr3 wb b3 _ _ _ h3 g2⟩
/-- the three boxes of the arguments -/
theorem boxes_abc (w : World) (o1 o2 o3 : Obj) : (((w.alloc o1).alloc o2).alloc o3).heap[w.heap.size]? = some o1 ∧ (((w.alloc o1).alloc o2).alloc o3).heap[w.heap.size + 1]? = some o2 ∧ (((w.alloc o1).alloc o2).alloc o3).heap[w.heap.size + 2]? = some o3 := by
  refine ⟨?_, ?_, ?_⟩
  · show (((w.heap.push _).push _).push _)[w.heap.size]? = _
    simp only [Array.getElem?_push, Array.size_push]
    rw [if_neg (by omega), if_neg (by omega), if_pos trivial]
  · show (((w.heap.push _).push _).push _)[w.heap.size + 1]? = _
    simp only [Array.getElem?_push, Array.size_push]
    rw [if_neg (by omega), if_pos trivial]
  · show (((w.heap.push _).push _).push _)[w.heap.size + 2]? = _
    simp only [Array.getElem?_push, Array.size_push]
    rw [if_pos trivial]
theorem cells_of {w : World} {b : Nat} {a0 a1 a2 : Value} (h : w.heap[b]? = some (.cells #[a0, a1, a2] 24)) : w.cell? ⟨b, 0, none⟩ = some a0 ∧ w.cell? ⟨b, 1, none⟩ = some a1 ∧ w.cell? ⟨b, 2, none⟩ = some a2 := ⟨by simp [World.cell?, h], by simp [World.cell?, h], by simp [World.cell?, h]⟩
theorem open_of {w : World} {b : Nat} {a0 a1 a2 : Value} (h : w.heap[b]? = some (.cells #[a0, a1, a2] 24)) : w.frozen? ⟨b, 0, none⟩ = false ∧ w.frozen? ⟨b, 1, none⟩ = false ∧ w.frozen? ⟨b, 2, none⟩ = false := ⟨by simp [World.frozen?, h], by simp [World.frozen?, h], by simp [World.frozen?, h]⟩
end Go.Proofs.YtaofmkgfnhonaaaDoor
