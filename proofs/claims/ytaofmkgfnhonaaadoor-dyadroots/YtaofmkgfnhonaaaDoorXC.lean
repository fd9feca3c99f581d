import Derived.Test.YtaofmkgfnhonaaaDoorXB
namespace Go.Proofs.YtaofmkgfnhonaaaDoor
open Go.RowKit
set_option linter.unusedVariables false

theorem signOf33 (s : Bool) (w : World) : Calls Tryd.prog 27 #[.bool s] w fun r w' => r = .returned (.int .i64 (if s then -1 else 1)) ∧ w' = w := by
  cases s
  · go_enter Tryd.func27, Tryd.ntmps27
    go_wp2
    go_ret
    exact ⟨rfl, rfl⟩
  · go_enter Tryd.func27, Tryd.ntmps27
    go_wp2
    go_ret
    exact ⟨rfl, rfl⟩
theorem Settled.form {w : World} {r : Ending} {s : Bool} {x : Nat} {e : Int} (h : Settled w r s x e) : ∃ a b c d f g, r = .returned (.tuple #[.agg #[.bool a, .slice b c d, .int .i64 f], .int .i64 g]) := by
  unfold Settled at h
  rcases h with ⟨_, rfl⟩ | ⟨t, q, ad, n, cap, _, _, rfl, _⟩ | ⟨t, q, _, _, rfl⟩
  · exact ⟨_, _, _, _, _, _, rfl⟩
  · exact ⟨_, _, _, _, _, _, rfl⟩
  · exact ⟨_, _, _, _, _, _, rfl⟩
theorem Settled.set3 {w : World} {r : Ending} {s : Bool} {x : Nat} {e : Int} (h : Settled w r s x e) {B2 : Nat} {p : Bool} {s0 : Option Addr} {l0 c0 : Nat} {i0 : Int} {T : TypeId} {fr : Nat × Nat} (hb : w.heap[B2]? = some (.cells #[.bool p, .slice s0 l0 c0, .int .i64 i0] T fr)) (v0 v1 v2 : Value) :
    Settled (((w.setCell ⟨B2, 0, none⟩ v0).setCell ⟨B2, 1, none⟩ v1).setCell ⟨B2, 2, none⟩ v2) r s x e := by
  unfold Settled at h ⊢
  rcases h with h | ⟨t, q, ad, n, cap, h1, h2, h3, h4, h5⟩ | h
  · exact Or.inl h
  · exact Or.inr (Or.inl ⟨t, q, ad, n, cap, h1, h2, h3, h4.set3 (h4.apart hb) _ _ _, h5⟩)
  · exact Or.inr (Or.inr h)
/-- the answer's block behind two new blocks, and what is kept of it -/
theorem second_block (w : World) (o1 o2 : Obj) : ((w.alloc o1).alloc o2).heap[w.heap.size + 1]? = some o2 := by
  show ((w.heap.push _).push _)[w.heap.size + 1]? = _
  simp only [Array.getElem?_push, Array.size_push]
  rw [if_pos trivial]
structure Out3 (w : World) (B : Nat) : Prop where
  c0 : w.cell? ⟨B, 0, none⟩ = some (.bool false)
  c1 : w.cell? ⟨B, 1, none⟩ = some (.slice none 0 0)
  c2 : w.cell? ⟨B, 2, none⟩ = some (.int .i64 0)
  f0 : w.frozen? ⟨B, 0, none⟩ = false
  f1 : w.frozen? ⟨B, 1, none⟩ = false
  f2 : w.frozen? ⟨B, 2, none⟩ = false
theorem Out3.of {w : World} {B : Nat} (h : w.heap[B]? = some (.cells #[.bool false, .slice none 0 0, .int .i64 0] 24)) : Out3 w B :=
  ⟨by simp [World.cell?, h], by simp [World.cell?, h], by simp [World.cell?, h], by simp [World.frozen?, h], by simp [World.frozen?, h], by simp [World.frozen?, h]⟩
theorem Gr.keepH {w w' : World} (g : Gr w w') {k : Nat} {o : Obj} (h : w.heap[k]? = some o) : w'.heap[k]? = some o := (g.block k (lt_of_heap h)).trans h

end Go.Proofs.YtaofmkgfnhonaaaDoor
