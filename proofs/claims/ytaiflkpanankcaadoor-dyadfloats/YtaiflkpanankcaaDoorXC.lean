import Derived.Test.YtaiflkpanankcaaDoorXB
namespace Go.Proofs.YtaiflkpanankcaaDoor
open Go.RowKit
set_option linter.unusedVariables false

theorem signOf33 (s : Bool) (w : World) : Calls Tryd.prog 33 #[.bool s] w fun r w' => r = .returned (.int .i64 (if s then -1 else 1)) ∧ w' = w := by
  cases s
  · go_enter Tryd.func33, Tryd.ntmps33
    go_wp2
    go_ret
    exact ⟨rfl, rfl⟩
  · go_enter Tryd.func33, Tryd.ntmps33
    go_wp2
    go_ret
    exact ⟨rfl, rfl⟩
theorem Settled.form {w : World} {r : Ending} {s : Bool} {x : Nat} {e : Int} (h : Settled w r s x e) : ∃ a b c d f g, r = .returned (.tuple #[.agg #[.bool a, .slice b c d, .int .i64 f], .int .i64 g]) := by
  unfold Settled at h
  rcases h with ⟨_, rfl⟩ | ⟨t, q, ad, n, cap, _, _, rfl, _⟩ | ⟨t, q, _, _, rfl⟩
  · exact ⟨_, _, _, _, _, _, rfl⟩
  · exact ⟨_, _, _, _, _, _, rfl⟩
  · exact ⟨_, _, _, _, _, _, rfl⟩
theorem Settled.set3 {w : World} {r : Ending} {s : Bool} {x : Nat} {e : Int} (h : Settled w r s x e) {B2 : Nat} {p : Bool} {s0 : Option Addr} {l0 c0 : Nat} {i0 : Int} {T : TypeId} {fr : Nat × Nat} (hb : w.heap[B2]? = some (.cells #[.bool p, .slice s0 l0 c0, .int .i64 i0] T fr)) (v0 v1 v2 : Value) :
    Settled (((w.setCell ⟨B2, 0, none⟩ v0).setCell ⟨B2, 1, none⟩ v1).setCell ⟨B2, 2, none⟩ v2) r s x e := by
  unfold Settled at h ⊢
  rcases h with h | ⟨t, q, ad, n, cap, h1, h2, h3, h4, h5⟩ | h
  · exact Or.inl h
  · exact Or.inr (Or.inl ⟨t, q, ad, n, cap, h1, h2, h3, h4.set3 (h4.apart hb) _ _ _, h5⟩)
  · exact Or.inr (Or.inr h)
/-- the answer's block behind two new blocks, and what is kept of it -/
theorem second_block (w : World) (o1 o2 : Obj) : ((w.alloc o1).alloc o2).heap[w.heap.size + 1]? = some o2 := by
  show ((w.heap.push _).push _)[w.heap.size + 1]? = _
  simp only [Array.getElem?_push, Array.size_push]
  rw [if_pos trivial]
structure Out3 (w : World) (B : Nat) : Prop where
  c0 : w.cell? ⟨B, 0, none⟩ = some (.bool false)
  c1 : w.cell? ⟨B, 1, none⟩ = some (.slice none 0 0)
  c2 : w.cell? ⟨B, 2, none⟩ = some (.int .i64 0)
  f0 : w.frozen? ⟨B, 0, none⟩ = false
  f1 : w.frozen? ⟨B, 1, none⟩ = false
  f2 : w.frozen? ⟨B, 2, none⟩ = false
theorem Out3.of {w : World} {B : Nat} (h : w.heap[B]? = some (.cells #[.bool false, .slice none 0 0, .int .i64 0] 24)) : Out3 w B :=
  ⟨by simp [World.cell?, h], by simp [World.cell?, h], by simp [World.cell?, h], by simp [World.frozen?, h], by simp [World.frozen?, h], by simp [World.frozen?, h]⟩
theorem Gr.keepH {w w' : World} (g : Gr w w') {k : Nat} {o : Obj} (h : w.heap[k]? = some o) : w'.heap[k]? = some o := (g.block k (lt_of_heap h)).trans h

set_option maxHeartbeats 1600000 in
theorem neg14 (s : Bool) (ad : Option Addr) (n cap x : Nat) (e : Int) (xs : List Nat) (w : World) (rx : Row w ad n cap xs) (hx : ∀ x ∈ xs, x < 18446744073709551616) (hv : nv 18446744073709551616 xs = x) (hn : n ≤ 1099511627776) (hT : TabAt 1 Lib.deBruijn64tab w) (e1 : -1000000000000 ≤ e) (e2 : e ≤ 1000000000000) (hR : RightD s xs e) :
    Calls Tryd.prog 14 #[.agg #[.bool s, .slice ad n cap, .int .i64 e]] w fun r w' => Settled w' r (!s) x e ∧ Gr w w' := by
  have R26 : Hid (∀ w1, Gr w w1 → Calls Tryd.prog 26 #[.agg #[.bool s, .slice ad n cap, .int .i64 e]] w1 fun r w' => r = .returned (.bool true) ∧ Gr w1 w') := fun w1 g => by
    have := right26 s ad n cap e xs w1 (rx.gr g) hx
    rw [rightB_t hR] at this
    exact this
  have S35 : Hid (∀ w1, Gr w w1 → Calls Tryd.prog 35 #[.agg #[.bool (!s), .slice ad n cap, .int .i64 e]] w1 fun r w' => ∃ a b c d f g, r = .returned (.tuple #[.agg #[.bool a, .slice b c d, .int .i64 f], .int .i64 g]) ∧ Hid (Settled w' r (!s) x e) ∧ Gr w1 w') := fun w1 g => by
    refine (settle35 (!s) ad n cap x e xs w1 (rx.gr g) hx hv hn (tab_gr hT g) e1 e2).mono ?_
    rintro r w' ⟨h1, h2⟩
    obtain ⟨a, b, c, d, f, g', hr⟩ := h1.form
    exact ⟨a, b, c, d, f, g', hr, h1, h2⟩
  clear rx hx hv hT hR
  go_enter Tryd.func14, Tryd.ntmps14
  go_wp2_with (first | (go_at_call 26; refine (R26.out _ (((Gr.refl w).alloc _).alloc _)).mono ?_; rintro r w1 ⟨rfl, g1⟩; have k0 : w1.cell? ⟨w.heap.size, 0, none⟩ = some (.bool s) := g1.keep (by simp); have k1 : w1.cell? ⟨w.heap.size, 1, none⟩ = some (.slice ad n cap) := g1.keep (by simp); have k2 : w1.cell? ⟨w.heap.size, 2, none⟩ = some (.int .i64 e) := g1.keep (by simp); have kb : w1.heap[w.heap.size + 1]? = some (.cells #[.bool false, .slice none 0 0, .int .i64 0] 24) := g1.keepH (second_block w _ _)) | (go_at_call 35; refine (S35.out _ ((((Gr.refl w).alloc _).alloc _).trans g1)).mono ?_; rintro r w2 ⟨a, b, c, d, f, g, rfl, hS, g2⟩; have kb2 := g2.keepH kb; obtain ⟨t0, t1, t2, u0, u1, u2⟩ := Out3.of kb2))
  refine bodyPost_ret (v := .tuple #[.agg #[.bool a, .slice b c d, .int .i64 f], .int .i64 g]) ?_ rfl ⟨hS.out.set3 kb2 _ _ _, ?_⟩
  · simp [results, Tryd.results14, go_sem, t0, t1, t2]
  · exact ((((((Gr.refl w).alloc _).alloc _).trans g1).trans g2).setCell (p := ⟨w.heap.size + 1, 0, none⟩) (Nat.le_succ _) _ |>.setCell (p := ⟨w.heap.size + 1, 1, none⟩) (Nat.le_succ _) _ |>.setCell (p := ⟨w.heap.size + 1, 2, none⟩) (Nat.le_succ _) _)
end Go.Proofs.YtaiflkpanankcaaDoor
