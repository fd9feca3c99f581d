import Derived.Test.YtobceegpcimdgaaQ06
import Derived.Test.YtobceegpcimdgaaQ21
import Derived.Orders
namespace Go.Proofs.Ytobceegpcimdgaa
open Go.RowKit
set_option linter.unusedVariables false
set_option linter.unusedSimpArgs false

/-! A REGION THAT DRAWS, BY ONE INVARIANT; 'a, b, c := p.Int(n), q.Int(n), r.Int(n)' FOR ANY NUMBER OF THEM -/
end Go.Proofs.Ytobceegpcimdgaa
namespace Go.Proofs.Ytobceegpcimdgaa
open Go.RowKit
set_option linter.unusedVariables false
set_option linter.unusedSimpArgs false

/-! A REGION THAT DRAWS, ITS OPERATIONS BY ROLES: each tells what it leaves, once, whatever order comes up -/
def AlF (B : Nat) (w : World) (v : Value) : Prop := ∃ p u0 u1, v = .pointer (some ⟨p, 0, none⟩) ∧ B ≤ p ∧ w.heap[p]? = some (.cells #[u0, u1] 24)
def StF (B : Nat) (Z : Int) (w : World) (v : Value) : Prop := ∃ p a b c d, v = .pointer (some ⟨p, 0, none⟩) ∧ B ≤ p ∧ w.heap[p]? = some (.cells #[.bool a, .slice b c d] 24) ∧ Wh w a b c d Z ∧ Fresh B w b c d
theorem StF.gr {B : Nat} {Z : Int} {w w' : World} {v : Value} (g : Gr w w') (h : StF B Z w v) : StF B Z w' v := by
  obtain ⟨p, a, b, c, d, e, h1, h2, h3, h4⟩ := h
  exact ⟨p, a, b, c, d, e, h1, keepO g h2, h3.gr g, h4.gr g⟩
inductive Ro where
  | g (d : Nat) (F : World → Value → Prop)
  | a (d : Nat)
  | s (A X : Nat) (Z : Int)
def Ro.at (B : Nat) (a : Act) (w : World) : Ro → Prop
  | .g d F => ∃ v, a.tmps[d]? = some v ∧ F w v
  | .a d => ∃ v, a.tmps[d]? = some v ∧ AlF B w v
  | .s A _ Z => ∃ v, a.tmps[A]? = some v ∧ StF B Z w v
def Ro.fin (B : Nat) (f : Nat → Value) (w : World) : Ro → Prop
  | .g d F => F w (f d)
  | .a d => AlF B w (f d)
  | .s A _ Z => StF B Z w (f A)
def AllO (Pr : Nat → Ro → Prop) : Nat → List Ro → Prop
  | _, [] => True
  | k, r :: rs => Pr k r ∧ AllO Pr (k + 1) rs
theorem AllO.at {Pr : Nat → Ro → Prop} : ∀ {rs : List Ro} {k i : Nat} {r : Ro}, AllO Pr k rs → rs[i]? = some r → Pr (k + i) r
  | [], _, _, _, _, h => by simp at h
  | _ :: _, k, 0, _, ⟨h1, _⟩, h => by simp at h; subst h; exact h1
  | _ :: rs, k, i + 1, r, ⟨_, h2⟩, h => by
    have := AllO.at (i := i) h2 (by simpa using h)
    rwa [show k + 1 + i = k + (i + 1) by omega] at this
end Go.Proofs.Ytobceegpcimdgaa
namespace Go.Proofs.Ytobceegpcimdgaa
open Go.RowKit
set_option linter.unusedVariables false
set_option linter.unusedSimpArgs false

end Go.Proofs.Ytobceegpcimdgaa
namespace Go.Proofs.Ytobceegpcimdgaa
open Go.RowKit
set_option linter.unusedVariables false
set_option linter.unusedSimpArgs false

end Go.Proofs.Ytobceegpcimdgaa
namespace Go.Proofs.Ytobceegpcimdgaa
open Go.RowKit
set_option linter.unusedVariables false
set_option linter.unusedSimpArgs false

end Go.Proofs.Ytobceegpcimdgaa
namespace Go.Proofs.Ytobceegpcimdgaa
open Go.RowKit
set_option linter.unusedVariables false
set_option linter.unusedSimpArgs false

def Cl2 (w : World) (p0 : Nat) (s0 : Bool) (a0 : Option Addr) (n0 c0 : Nat) (p1 : Nat) (s1 : Bool) (a1 : Option Addr) (n1 c1 : Nat) : Prop := w.heap[p0]? = some (.cells #[.bool s0, .slice a0 n0 c0] 24) ∧ w.heap[p1]? = some (.cells #[.bool s1, .slice a1 n1 c1] 24)
theorem Cl2.gr {w w' : World} {p0 : Nat} {s0 : Bool} {a0 : Option Addr} {n0 c0 : Nat} {p1 : Nat} {s1 : Bool} {a1 : Option Addr} {n1 c1 : Nat} (h : Cl2 w p0 s0 a0 n0 c0 p1 s1 a1 n1 c1) (g : Gr w w') : Cl2 w' p0 s0 a0 n0 c0 p1 s1 a1 n1 c1 := ⟨keepO g h.1, keepO g h.2⟩
theorem Cl2.cells {w : World} {p0 : Nat} {s0 : Bool} {a0 : Option Addr} {n0 c0 : Nat} {p1 : Nat} {s1 : Bool} {a1 : Option Addr} {n1 c1 : Nat} (h : Cl2 w p0 s0 a0 n0 c0 p1 s1 a1 n1 c1) : (w.cell? ⟨p0, 0, none⟩ = some (.bool s0) ∧ w.cell? ⟨p0, 1, none⟩ = some (.slice a0 n0 c0)) ∧ (w.cell? ⟨p1, 0, none⟩ = some (.bool s1) ∧ w.cell? ⟨p1, 1, none⟩ = some (.slice a1 n1 c1)) := ⟨bx2 h.1, bx2 h.2⟩
def Cl8 (w : World) (p0 : Nat) (s0 : Bool) (a0 : Option Addr) (n0 c0 : Nat) (p1 : Nat) (s1 : Bool) (a1 : Option Addr) (n1 c1 : Nat) (p2 : Nat) (s2 : Bool) (a2 : Option Addr) (n2 c2 : Nat) (p3 : Nat) (s3 : Bool) (a3 : Option Addr) (n3 c3 : Nat) (p4 : Nat) (s4 : Bool) (a4 : Option Addr) (n4 c4 : Nat) (p5 : Nat) (s5 : Bool) (a5 : Option Addr) (n5 c5 : Nat) (p6 : Nat) (s6 : Bool) (a6 : Option Addr) (n6 c6 : Nat) (p7 : Nat) (s7 : Bool) (a7 : Option Addr) (n7 c7 : Nat) : Prop := w.heap[p0]? = some (.cells #[.bool s0, .slice a0 n0 c0] 24) ∧ w.heap[p1]? = some (.cells #[.bool s1, .slice a1 n1 c1] 24) ∧ w.heap[p2]? = some (.cells #[.bool s2, .slice a2 n2 c2] 24) ∧ w.heap[p3]? = some (.cells #[.bool s3, .slice a3 n3 c3] 24) ∧ w.heap[p4]? = some (.cells #[.bool s4, .slice a4 n4 c4] 24) ∧ w.heap[p5]? = some (.cells #[.bool s5, .slice a5 n5 c5] 24) ∧ w.heap[p6]? = some (.cells #[.bool s6, .slice a6 n6 c6] 24) ∧ w.heap[p7]? = some (.cells #[.bool s7, .slice a7 n7 c7] 24)
theorem Cl8.gr {w w' : World} {p0 : Nat} {s0 : Bool} {a0 : Option Addr} {n0 c0 : Nat} {p1 : Nat} {s1 : Bool} {a1 : Option Addr} {n1 c1 : Nat} {p2 : Nat} {s2 : Bool} {a2 : Option Addr} {n2 c2 : Nat} {p3 : Nat} {s3 : Bool} {a3 : Option Addr} {n3 c3 : Nat} {p4 : Nat} {s4 : Bool} {a4 : Option Addr} {n4 c4 : Nat} {p5 : Nat} {s5 : Bool} {a5 : Option Addr} {n5 c5 : Nat} {p6 : Nat} {s6 : Bool} {a6 : Option Addr} {n6 c6 : Nat} {p7 : Nat} {s7 : Bool} {a7 : Option Addr} {n7 c7 : Nat} (h : Cl8 w p0 s0 a0 n0 c0 p1 s1 a1 n1 c1 p2 s2 a2 n2 c2 p3 s3 a3 n3 c3 p4 s4 a4 n4 c4 p5 s5 a5 n5 c5 p6 s6 a6 n6 c6 p7 s7 a7 n7 c7) (g : Gr w w') : Cl8 w' p0 s0 a0 n0 c0 p1 s1 a1 n1 c1 p2 s2 a2 n2 c2 p3 s3 a3 n3 c3 p4 s4 a4 n4 c4 p5 s5 a5 n5 c5 p6 s6 a6 n6 c6 p7 s7 a7 n7 c7 := ⟨keepO g h.1, keepO g h.2.1, keepO g h.2.2.1, keepO g h.2.2.2.1, keepO g h.2.2.2.2.1, keepO g h.2.2.2.2.2.1, keepO g h.2.2.2.2.2.2.1, keepO g h.2.2.2.2.2.2.2⟩
theorem Cl8.cells {w : World} {p0 : Nat} {s0 : Bool} {a0 : Option Addr} {n0 c0 : Nat} {p1 : Nat} {s1 : Bool} {a1 : Option Addr} {n1 c1 : Nat} {p2 : Nat} {s2 : Bool} {a2 : Option Addr} {n2 c2 : Nat} {p3 : Nat} {s3 : Bool} {a3 : Option Addr} {n3 c3 : Nat} {p4 : Nat} {s4 : Bool} {a4 : Option Addr} {n4 c4 : Nat} {p5 : Nat} {s5 : Bool} {a5 : Option Addr} {n5 c5 : Nat} {p6 : Nat} {s6 : Bool} {a6 : Option Addr} {n6 c6 : Nat} {p7 : Nat} {s7 : Bool} {a7 : Option Addr} {n7 c7 : Nat} (h : Cl8 w p0 s0 a0 n0 c0 p1 s1 a1 n1 c1 p2 s2 a2 n2 c2 p3 s3 a3 n3 c3 p4 s4 a4 n4 c4 p5 s5 a5 n5 c5 p6 s6 a6 n6 c6 p7 s7 a7 n7 c7) : (w.cell? ⟨p0, 0, none⟩ = some (.bool s0) ∧ w.cell? ⟨p0, 1, none⟩ = some (.slice a0 n0 c0)) ∧ (w.cell? ⟨p1, 0, none⟩ = some (.bool s1) ∧ w.cell? ⟨p1, 1, none⟩ = some (.slice a1 n1 c1)) ∧ (w.cell? ⟨p2, 0, none⟩ = some (.bool s2) ∧ w.cell? ⟨p2, 1, none⟩ = some (.slice a2 n2 c2)) ∧ (w.cell? ⟨p3, 0, none⟩ = some (.bool s3) ∧ w.cell? ⟨p3, 1, none⟩ = some (.slice a3 n3 c3)) ∧ (w.cell? ⟨p4, 0, none⟩ = some (.bool s4) ∧ w.cell? ⟨p4, 1, none⟩ = some (.slice a4 n4 c4)) ∧ (w.cell? ⟨p5, 0, none⟩ = some (.bool s5) ∧ w.cell? ⟨p5, 1, none⟩ = some (.slice a5 n5 c5)) ∧ (w.cell? ⟨p6, 0, none⟩ = some (.bool s6) ∧ w.cell? ⟨p6, 1, none⟩ = some (.slice a6 n6 c6)) ∧ (w.cell? ⟨p7, 0, none⟩ = some (.bool s7) ∧ w.cell? ⟨p7, 1, none⟩ = some (.slice a7 n7 c7)) := ⟨bx2 h.1, bx2 h.2.1, bx2 h.2.2.1, bx2 h.2.2.2.1, bx2 h.2.2.2.2.1, bx2 h.2.2.2.2.2.1, bx2 h.2.2.2.2.2.2.1, bx2 h.2.2.2.2.2.2.2⟩
end Go.Proofs.Ytobceegpcimdgaa
namespace Go.Proofs.Ytobceegpcimdgaa
open Go.RowKit
set_option linter.unusedVariables false
set_option linter.unusedSimpArgs false

theorem sameTT {s t : Bool} {a b : Option Addr} {n m c d : Nat} {X Y : Int} {w : World} (h : Wh w s a n c X) (h' : Wh w t b m d Y) (e : X = Y) : Calls Try.prog 19 #[.agg #[.bool s, .slice a n c], .agg #[.bool t, .slice b m d]] w fun r w' => r = .returned (.bool true) ∧ Gr w w' := by
  have := sameIntL s t a b n m c d X Y w h h'
  rw [eqI_t e] at this
  exact this
end Go.Proofs.Ytobceegpcimdgaa
