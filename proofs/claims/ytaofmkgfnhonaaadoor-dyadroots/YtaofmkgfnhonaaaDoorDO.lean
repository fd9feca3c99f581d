import Derived.Test.YtaofmkgfnhonaaaDoorDN
namespace Go.Proofs.YtaofmkgfnhonaaaDoor
open Go.RowKit
set_option linter.unusedVariables false

theorem DyV_abs {w : World} {s : Bool} {ad : Option Addr} {n cap : Nat} {e V : Int} (h : DyV w s ad n cap e V) : DyV w false ad n cap e (V.natAbs : Int) := by
  obtain ⟨x, dx, hV⟩ := h
  refine ⟨x, ⟨dx.lim, dx.le, ?_⟩, ?_⟩
  · rcases dx.right with ⟨h1, _, h3⟩ | h
    · exact Or.inl ⟨h1, rfl, h3⟩
    · exact Or.inr h
  · rw [← hV, sv_abs]; unfold sv; simp only [Bool.false_eq_true, if_false]
theorem Lim.set1 {w : World} {ad : Option Addr} {n cap B x : Nat} (h : Lim w ad n cap B x) {B2 o : Nat} (hb : 0 < n → ∀ a, ad = some a → a.block ≠ B2) (v : Value) : Lim (w.setCell ⟨B2, o, none⟩ v) ad n cap B x := by
  obtain ⟨xs, h1, h2⟩ := h
  refine ⟨xs, ⟨h1.len, h1.le, h1.max, h1.nil, fun hp => ?_⟩, h2⟩
  obtain ⟨b, off, hab, hlt, hc⟩ := h1.cells hp
  refine ⟨b, off, hab, by simpa [World.setCell] using hlt, fun j hj => ?_⟩
  rw [World.cell?_setCell_other _ _ _ _ (fun e => hb hp _ hab (by injection e with e1; exact e1.symm))]
  exact hc j hj
/-- a box written over, then its sign -/
theorem put4 {W w : World} (hG : Gr W w) {b1 : Nat} (h1 : W.heap.size ≤ b1) {p1 : Bool} {q1 : Option Addr} {l1 k1 : Nat} {i1 : Int} (H1 : w.heap[b1]? = some (.cells #[.bool p1, .slice q1 l1 k1, .int .i64 i1] 24)) {s1 : Bool} {a1 : Option Addr} {n1 c1 : Nat} {e1 U : Int} (D1 : DyV w false a1 n1 c1 e1 U) :
    Bx ((((w.setCell ⟨b1, 0, none⟩ (.bool s1)).setCell ⟨b1, 1, none⟩ (.slice a1 n1 c1)).setCell ⟨b1, 2, none⟩ (.int .i64 e1)).setCell ⟨b1, 0, none⟩ (.bool false)) b1 false a1 n1 c1 e1 U ∧ Gr W ((((w.setCell ⟨b1, 0, none⟩ (.bool s1)).setCell ⟨b1, 1, none⟩ (.slice a1 n1 c1)).setCell ⟨b1, 2, none⟩ (.int .i64 e1)).setCell ⟨b1, 0, none⟩ (.bool false)) := by
  obtain ⟨x0, x1, x2⟩ := cells_of H1
  have t := set3_at (v0 := .bool s1) (v1 := .slice a1 n1 c1) (v2 := .int .i64 e1) x0 x1 x2
  have ne : ∀ j : Nat, 0 ≠ j → (⟨b1, 0, none⟩ : Addr) ≠ ⟨b1, j, none⟩ := fun j hij e => hij (by injection e)
  refine ⟨⟨World.cell?_setCell_same _ _ _ t.1, ?_, ?_, ?_⟩, (((hG.setCell (p := ⟨b1, 0, none⟩) h1 _).setCell (p := ⟨b1, 1, none⟩) h1 _).setCell (p := ⟨b1, 2, none⟩) h1 _).setCell (p := ⟨b1, 0, none⟩) h1 _⟩
  · rw [World.cell?_setCell_other _ _ _ _ (ne 1 (by omega))]; exact t.2.1
  · rw [World.cell?_setCell_other _ _ _ _ (ne 2 (by omega))]; exact t.2.2
  · obtain ⟨x, dx, hV⟩ := D1
    have ap := dx.lim.apart H1
    exact ⟨x, ⟨(dx.lim.set3 ap _ _ _).set1 ap _, dx.le, dx.right⟩, hV⟩
theorem hide {p : Prop} (h : p) : Hid p := h
theorem keepB {W wo wn : World} {p : Nat} {a0 a1 a2 : Value} (g : Gr wo wn) (h : (wo.cell? ⟨p, 0, none⟩ = some a0 ∧ wo.cell? ⟨p, 1, none⟩ = some a1 ∧ wo.cell? ⟨p, 2, none⟩ = some a2) ∧ Gr W wo) : (wn.cell? ⟨p, 0, none⟩ = some a0 ∧ wn.cell? ⟨p, 1, none⟩ = some a1 ∧ wn.cell? ⟨p, 2, none⟩ = some a2) ∧ Gr W wn := ⟨⟨g.keep h.1.1, g.keep h.1.2.1, g.keep h.1.2.2⟩, h.2.trans g⟩
theorem keepBA {W wo : World} {o : Obj} {p : Nat} {a0 a1 a2 : Value} (h : (wo.cell? ⟨p, 0, none⟩ = some a0 ∧ wo.cell? ⟨p, 1, none⟩ = some a1 ∧ wo.cell? ⟨p, 2, none⟩ = some a2) ∧ Gr W wo) : ((wo.alloc o).cell? ⟨p, 0, none⟩ = some a0 ∧ (wo.alloc o).cell? ⟨p, 1, none⟩ = some a1 ∧ (wo.alloc o).cell? ⟨p, 2, none⟩ = some a2) ∧ Gr W (wo.alloc o) :=
  have g : Gr wo (wo.alloc o) := (Gr.refl wo).alloc o
  ⟨⟨g.keep h.1.1, g.keep h.1.2.1, g.keep h.1.2.2⟩, h.2.trans g⟩
theorem keepBS {W wo : World} {B2 p : Nat} {a0 a1 a2 v0 v1 v2 : Value} (hb : p ≠ B2) (hle : W.heap.size ≤ B2) (h : (wo.cell? ⟨p, 0, none⟩ = some a0 ∧ wo.cell? ⟨p, 1, none⟩ = some a1 ∧ wo.cell? ⟨p, 2, none⟩ = some a2) ∧ Gr W wo) :
    ((((wo.setCell ⟨B2, 0, none⟩ v0).setCell ⟨B2, 1, none⟩ v1).setCell ⟨B2, 2, none⟩ v2).cell? ⟨p, 0, none⟩ = some a0 ∧ (((wo.setCell ⟨B2, 0, none⟩ v0).setCell ⟨B2, 1, none⟩ v1).setCell ⟨B2, 2, none⟩ v2).cell? ⟨p, 1, none⟩ = some a1 ∧ (((wo.setCell ⟨B2, 0, none⟩ v0).setCell ⟨B2, 1, none⟩ v1).setCell ⟨B2, 2, none⟩ v2).cell? ⟨p, 2, none⟩ = some a2) ∧ Gr W (((wo.setCell ⟨B2, 0, none⟩ v0).setCell ⟨B2, 1, none⟩ v1).setCell ⟨B2, 2, none⟩ v2) :=
  ⟨⟨set3_far (Ne.symm hb) h.1.1, set3_far (Ne.symm hb) h.1.2.1, set3_far (Ne.symm hb) h.1.2.2⟩, ((h.2.setCell (p := ⟨B2, 0, none⟩) hle _).setCell (p := ⟨B2, 1, none⟩) hle _).setCell (p := ⟨B2, 2, none⟩) hle _⟩
theorem new_block (w : World) (o : Obj) : (w.alloc o).heap[w.heap.size]? = some o := by
  show (w.heap.push _)[w.heap.size]? = _
  simp only [Array.getElem?_push]
  rw [if_pos trivial]
theorem bl_of_dyv {w : World} {ad : Option Addr} {n cap x : Nat} {e V : Int} (h : DyV w false ad n cap e V) (hx : sv KK false x e = V) : bl x ≤ 64 * n := by
  obtain ⟨y, dy, hy⟩ := h
  have : x = y := by
    rw [← hy] at hx
    unfold sv at hx
    simp only [Bool.false_eq_true, if_false] at hx
    exact Nat.eq_of_mul_eq_mul_right (Nat.two_pow_pos _) (Int.ofNat.inj hx)
  subst this
  obtain ⟨xs, r, d⟩ := dy.lim
  have := bl_len d
  rwa [r.len] at this
theorem sv_sq (R : Nat) (last : Int) (h1 : 0 ≤ last + KK) (h2 : 0 ≤ last + last + KK) : sv KK false (R * R) (last + last) * PP = ((R * R * (PL last * PL last) : Nat) : Int) := by
  have := sv_prod (s := false) (t := false) (x := R) (y := R) (e := last) (f := last) h1 h1 h2
  rw [show (false != false) = false from rfl] at this
  rw [this, sv_PL, ← Int.natCast_mul]
  congr 1
  ac_rfl
theorem sq_cmp {Z V : Int} {a v : Nat} (h1 : Z * PP = (a : Int)) (h2 : V = (v : Int)) : (a ≤ v * 2 ^ KN → Z ≤ V) ∧ (v * 2 ^ KN < a → V < Z) ∧ (a = v * 2 ^ KN → Z = V) ∧ (a ≠ v * 2 ^ KN → Z ≠ V) := by
  have hp := PP_pos
  have hV : V * PP = ((v * 2 ^ KN : Nat) : Int) := by rw [h2, Int.natCast_mul]; rfl
  refine ⟨fun h => ?_, fun h => ?_, fun h => ?_, fun h he => h ?_⟩
  · refine Int.le_of_mul_le_mul_right ?_ hp
    rw [h1, hV]; exact Int.ofNat_le.2 h
  · refine Int.lt_of_mul_lt_mul_right ?_ (Int.le_of_lt hp)
    rw [h1, hV]; exact Int.ofNat_lt.2 h
  · refine Int.eq_of_mul_eq_mul_right (Int.ne_of_gt hp) ?_
    rw [h1, hV, h]
  · rw [he, hV] at h1
    exact (Int.ofNat.inj h1).symm
end Go.Proofs.YtaofmkgfnhonaaaDoor
