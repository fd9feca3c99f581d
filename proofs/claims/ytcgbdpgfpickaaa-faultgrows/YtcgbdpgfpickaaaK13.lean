import Derived.Test.YtcgbdpgfpickaaaK12
import Derived.Deep.RegionHeld3
import Derived.BigRegion
namespace Go.Proofs.Ytcgbdpgfpickaaa
open Go.RowKit
set_option linter.unusedVariables false

theorem Gr.keep {wo wn : World} (g : Gr wo wn) {b o : Nat} {v : Value} (h : wo.cell? ⟨b, o, none⟩ = some v) : wn.cell? ⟨b, o, none⟩ = some v :=
  (g.cell (p := ⟨b, o, none⟩) (lt_of_cell' h)).trans h
theorem Gr.keepF {wo wn : World} (g : Gr wo wn) {b o : Nat} (hb : b < wo.heap.size) (h : wo.frozen? ⟨b, o, none⟩ = false) : wn.frozen? ⟨b, o, none⟩ = false :=
  (g.frozen (p := ⟨b, o, none⟩) hb).trans h
theorem keep2 {W wo wn : World} {b1 o1 b2 o2 : Nat} {v1 v2 : Value} (g : Gr wo wn) (h : wo.cell? ⟨b1, o1, none⟩ = some v1 ∧ wo.cell? ⟨b2, o2, none⟩ = some v2 ∧ Gr W wo) : wn.cell? ⟨b1, o1, none⟩ = some v1 ∧ wn.cell? ⟨b2, o2, none⟩ = some v2 ∧ Gr W wn :=
  ⟨g.keep h.1, g.keep h.2.1, h.2.2.trans g⟩
theorem keepA {W wo : World} {o : Obj} {b1 o1 b2 o2 : Nat} {v1 v2 : Value} (h : wo.cell? ⟨b1, o1, none⟩ = some v1 ∧ wo.cell? ⟨b2, o2, none⟩ = some v2 ∧ Gr W wo) : (wo.alloc o).cell? ⟨b1, o1, none⟩ = some v1 ∧ (wo.alloc o).cell? ⟨b2, o2, none⟩ = some v2 ∧ Gr W (wo.alloc o) :=
  keep2 ((Gr.refl wo).alloc o) h
theorem set3_far {wo : World} {B2 b o : Nat} {v0 v1 v2 v : Value} (hb : B2 ≠ b) (h : wo.cell? ⟨b, o, none⟩ = some v) : (((wo.setCell ⟨B2, 0, none⟩ v0).setCell ⟨B2, 1, none⟩ v1).setCell ⟨B2, 2, none⟩ v2).cell? ⟨b, o, none⟩ = some v := by
  have ne : ∀ i, (⟨B2, i, none⟩ : Addr) ≠ ⟨b, o, none⟩ := fun i e => hb (by injection e)
  rw [World.cell?_setCell_other _ _ _ _ (ne 2), World.cell?_setCell_other _ _ _ _ (ne 1), World.cell?_setCell_other _ _ _ _ (ne 0)]
  exact h
theorem set3_at {wo : World} {b : Nat} {v0 v1 v2 a0 a1 a2 : Value} (h0 : wo.cell? ⟨b, 0, none⟩ = some a0) (h1 : wo.cell? ⟨b, 1, none⟩ = some a1) (h2 : wo.cell? ⟨b, 2, none⟩ = some a2) :
    (((wo.setCell ⟨b, 0, none⟩ v0).setCell ⟨b, 1, none⟩ v1).setCell ⟨b, 2, none⟩ v2).cell? ⟨b, 0, none⟩ = some v0 ∧ (((wo.setCell ⟨b, 0, none⟩ v0).setCell ⟨b, 1, none⟩ v1).setCell ⟨b, 2, none⟩ v2).cell? ⟨b, 1, none⟩ = some v1 ∧ (((wo.setCell ⟨b, 0, none⟩ v0).setCell ⟨b, 1, none⟩ v1).setCell ⟨b, 2, none⟩ v2).cell? ⟨b, 2, none⟩ = some v2 := by
  have ne : ∀ i j : Nat, i ≠ j → (⟨b, i, none⟩ : Addr) ≠ ⟨b, j, none⟩ := fun i j hij e => hij (by injection e)
  refine ⟨?_, ?_, ?_⟩
  · rw [World.cell?_setCell_other _ _ _ _ (ne 2 0 (by omega)), World.cell?_setCell_other _ _ _ _ (ne 1 0 (by omega))]
    exact World.cell?_setCell_same _ _ _ h0
  · rw [World.cell?_setCell_other _ _ _ _ (ne 2 1 (by omega))]
    refine World.cell?_setCell_same _ _ _ (u := a1) ?_
    rw [World.cell?_setCell_other _ _ _ _ (ne 0 1 (by omega))]
    exact h1
  · refine World.cell?_setCell_same _ _ _ (u := a2) ?_
    rw [World.cell?_setCell_other _ _ _ _ (ne 1 2 (by omega)), World.cell?_setCell_other _ _ _ _ (ne 0 2 (by omega))]
    exact h2
theorem keepSt {W wo : World} {B2 b o1 o2 : Nat} {v0 v1 v2 u1 u2 : Value} (hb : b ≠ B2) (hle : W.heap.size ≤ B2) (h : wo.cell? ⟨b, o1, none⟩ = some u1 ∧ wo.cell? ⟨b, o2, none⟩ = some u2 ∧ Gr W wo) :
    (((wo.setCell ⟨B2, 0, none⟩ v0).setCell ⟨B2, 1, none⟩ v1).setCell ⟨B2, 2, none⟩ v2).cell? ⟨b, o1, none⟩ = some u1 ∧ (((wo.setCell ⟨B2, 0, none⟩ v0).setCell ⟨B2, 1, none⟩ v1).setCell ⟨B2, 2, none⟩ v2).cell? ⟨b, o2, none⟩ = some u2 ∧ Gr W (((wo.setCell ⟨B2, 0, none⟩ v0).setCell ⟨B2, 1, none⟩ v1).setCell ⟨B2, 2, none⟩ v2) :=
  ⟨set3_far (Ne.symm hb) h.1, set3_far (Ne.symm hb) h.2.1, ((h.2.2.setCell hle _).setCell hle _).setCell hle _⟩
/-- limbs lie in no block that holds a number's sign, limbs and power -/
theorem Lim.apart {w : World} {ad : Option Addr} {n cap B x : Nat} (h : Lim w ad n cap B x) {B2 : Nat} {p : Bool} {s0 : Option Addr} {l0 c0 : Nat} {i0 : Int} {T : TypeId} {fr : Nat × Nat} (hb : w.heap[B2]? = some (.cells #[.bool p, .slice s0 l0 c0, .int .i64 i0] T fr)) : 0 < n → ∀ a, ad = some a → a.block ≠ B2 := by
  obtain ⟨xs, h1, h2⟩ := h
  intro hp a ha he
  obtain ⟨b, off, hab, _, hc⟩ := h1.cells hp
  rw [ha] at hab
  injection hab with hab
  have h0 := hc 0 hp
  rw [hab] at he
  have he : b = B2 := he
  subst he
  simp only [World.cell?, hb] at h0
  match off, h0 with
  | 0, h0 => simp at h0
  | 1, h0 => simp at h0
  | 2, h0 => simp at h0
  | k + 3, h0 => simp at h0
theorem Lim.set3 {w : World} {ad : Option Addr} {n cap B x : Nat} (h : Lim w ad n cap B x) {B2 : Nat} (hb : 0 < n → ∀ a, ad = some a → a.block ≠ B2) (v0 v1 v2 : Value) : Lim (((w.setCell ⟨B2, 0, none⟩ v0).setCell ⟨B2, 1, none⟩ v1).setCell ⟨B2, 2, none⟩ v2) ad n cap B x := by
  obtain ⟨xs, h1, h2⟩ := h
  refine ⟨xs, ⟨h1.len, h1.le, h1.max, h1.nil, fun hp => ?_⟩, h2⟩
  obtain ⟨b, off, hab, hlt, hc⟩ := h1.cells hp
  refine ⟨b, off, hab, by simpa [World.setCell] using hlt, fun j hj => ?_⟩
  exact set3_far (fun e => hb hp _ hab e.symm) (hc j hj)

theorem lt_of_heap {w : World} {k : Nat} {o : Obj} (h : w.heap[k]? = some o) : k < w.heap.size := by
  refine Nat.lt_of_not_le fun hle => ?_
  rw [Array.getElem?_eq_none hle] at h
  cases h
def zeroD : Value := .agg #[.bool false, .slice none 0 0, .int .i64 0]
def L4096 : Nat := 4096
theorem L4096_eq : L4096 = 4096 := rfl
/-- is there a right dyad of an odd number (2 q + 1) times 2^p? -/
def Fits (m : Nat) (p : Int) : Prop := m < 18446744073709551616 ^ L4096 ∧ -1048576 ≤ p ∧ p ≤ 1048576
/-- what settle tells of sign, size and power -/
def Settled (w' : World) (r : Ending) (s : Bool) (x : Nat) (e : Int) : Prop :=
  (x = 0 ∧ r = .returned (.tuple #[zeroD, .int .i64 0])) ∨
  (∃ (t q : Nat) (ad : Option Addr) (n cap : Nat), x = 2 ^ t * (2 * q + 1) ∧ Fits (2 * q + 1) (e + (t : Int)) ∧ r = .returned (.tuple #[.agg #[.bool s, .slice ad n cap, .int .i64 (e + (t : Int))], .int .i64 0]) ∧ Lim w' ad n cap 18446744073709551616 (2 * q + 1) ∧ n ≤ 4096) ∨
  (∃ t q : Nat, x = 2 ^ t * (2 * q + 1) ∧ ¬ Fits (2 * q + 1) (e + (t : Int)) ∧ r = .returned (.tuple #[zeroD, .int .i64 3]))
theorem odd_digit {m : Nat} {ys : List Nat} (h : Dg 18446744073709551616 m ys) (hp : 0 < ys.length) : ys.getD 0 0 % 2 = m % 2 := by
  have := nv_split 18446744073709551616 ys 0 hp
  rw [h.1] at this
  simp [nv] at this
  rw [this, List.getD_eq_getElem?_getD]
  omega
theorem right_iff {s : Bool} {q : Nat} {ys : List Nat} {p : Int} (h : Dg 18446744073709551616 (2 * q + 1) ys) : RightD s ys p ↔ Fits (2 * q + 1) p := by
  have hp : 0 < ys.length := Nat.pos_of_ne_zero fun e => by
    have := (h.zero_iff (by omega)).1 e
    omega
  have hod := odd_digit h hp
  have hup := h.upper
  have htop := h.2.2 (ys.length - 1) (by omega)
  have hlo := h.lower (k := ys.length - 1) (by omega)
  unfold RightD Fits
  constructor
  · rintro (⟨h0, _⟩ | ⟨_, h1, _, _, h2, h3⟩)
    · omega
    · exact ⟨Nat.lt_of_lt_of_le hup (Nat.pow_le_pow_right (by omega) (by rw [L4096_eq]; exact h1)), h2, h3⟩
  · rintro ⟨h1, h2, h3⟩
    refine Or.inr ⟨hp, ?_, htop, by omega, h2, h3⟩
    refine Nat.le_of_not_lt fun hlt => ?_
    have : 18446744073709551616 ^ L4096 ≤ 18446744073709551616 ^ (ys.length - 1) := Nat.pow_le_pow_right (by omega) (by rw [L4096_eq]; omega)
    omega

/-- limbs that lie in new memory -/
structure LimF (B : Nat) (w : World) (ad : Option Addr) (n cap x : Nat) : Prop where
  lim : Lim w ad n cap 18446744073709551616 x
  fresh : Fresh B w ad n cap
  pos : 0 < n
theorem LimF.gr {B : Nat} {w w' : World} {ad : Option Addr} {n cap x : Nat} (h : LimF B w ad n cap x) (g : Gr w w') : LimF B w' ad n cap x := ⟨h.lim.gr g, h.fresh.gr g, h.pos⟩
theorem LimF.apart {B0 : Nat} {w : World} {ad : Option Addr} {n cap x : Nat} (h : LimF B0 w ad n cap x) {B2 : Nat} {p : Bool} {s0 : Option Addr} {l0 c0 : Nat} {i0 : Int} {T : TypeId} {fr : Nat × Nat} (hb : w.heap[B2]? = some (.cells #[.bool p, .slice s0 l0 c0, .int .i64 i0] T fr)) : 0 < n → ∀ a, ad = some a → a.block ≠ B2 := h.lim.apart hb
theorem LimF.set3 {B0 : Nat} {w : World} {ad : Option Addr} {n cap x : Nat} (h : LimF B0 w ad n cap x) {B2 : Nat} (hb : 0 < n → ∀ a, ad = some a → a.block ≠ B2) (v0 v1 v2 : Value) : LimF B0 (((w.setCell ⟨B2, 0, none⟩ v0).setCell ⟨B2, 1, none⟩ v1).setCell ⟨B2, 2, none⟩ v2) ad n cap x :=
  ⟨h.lim.set3 hb v0 v1 v2, h.fresh.set3 (hb h.pos) v0 v1 v2, h.pos⟩
theorem LimF.of {B : Nat} {w : World} {ad : Option Addr} {n cap q : Nat} (h : Lim w ad n cap 18446744073709551616 (2 * q + 1)) (f : Fresh B w ad n cap) : LimF B w ad n cap (2 * q + 1) := by
  refine ⟨h, f, ?_⟩
  obtain ⟨xs, r, d⟩ := h
  refine Nat.pos_of_ne_zero fun e => ?_
  have := (d.zero_iff (by omega)).1 (by rw [r.len, e])
  omega
/-- what settle tells, in new memory -/
structure SettledN (B : Nat) (w' : World) (r : Ending) (s : Bool) (x : Nat) (e : Int) : Prop where
  told : Settled w' r s x e
  new : NewR B w' r
theorem SettledN.low {B B' : Nat} {w : World} {r : Ending} {s : Bool} {x : Nat} {e : Int} (h : SettledN B w r s x e) (hb : B' ≤ B) : SettledN B' w r s x e := ⟨h.told, h.new.low hb⟩
end Go.Proofs.Ytcgbdpgfpickaaa
namespace Go.Proofs.Ytcgbdpgfpickaaa
open Go.RowKit
set_option linter.unusedVariables false

theorem Settled.form {w : World} {r : Ending} {s : Bool} {x : Nat} {e : Int} (h : Settled w r s x e) : ∃ a b c d f g, r = .returned (.tuple #[.agg #[.bool a, .slice b c d, .int .i64 f], .int .i64 g]) := by
  unfold Settled at h
  rcases h with ⟨_, rfl⟩ | ⟨t, q, ad, n, cap, _, _, rfl, _⟩ | ⟨t, q, _, _, rfl⟩
  · exact ⟨_, _, _, _, _, _, rfl⟩
  · exact ⟨_, _, _, _, _, _, rfl⟩
  · exact ⟨_, _, _, _, _, _, rfl⟩
theorem Settled.set3 {w : World} {r : Ending} {s : Bool} {x : Nat} {e : Int} (h : Settled w r s x e) {B2 : Nat} {p : Bool} {s0 : Option Addr} {l0 c0 : Nat} {i0 : Int} {T : TypeId} {fr : Nat × Nat} (hb : w.heap[B2]? = some (.cells #[.bool p, .slice s0 l0 c0, .int .i64 i0] T fr)) (v0 v1 v2 : Value) :
    Settled (((w.setCell ⟨B2, 0, none⟩ v0).setCell ⟨B2, 1, none⟩ v1).setCell ⟨B2, 2, none⟩ v2) r s x e := by
  unfold Settled at h ⊢
  rcases h with h | ⟨t, q, ad, n, cap, h1, h2, h3, h4, h5⟩ | h
  · exact Or.inl h
  · exact Or.inr (Or.inl ⟨t, q, ad, n, cap, h1, h2, h3, h4.set3 (h4.apart hb) _ _ _, h5⟩)
  · exact Or.inr (Or.inr h)
theorem SettledN.form {B : Nat} {w : World} {r : Ending} {s : Bool} {x : Nat} {e : Int} (h : SettledN B w r s x e) : ∃ a b c d f g, r = .returned (.tuple #[.agg #[.bool a, .slice b c d, .int .i64 f], .int .i64 g]) := h.told.form
theorem SettledN.set3 {B : Nat} {w : World} {r : Ending} {s : Bool} {x : Nat} {e : Int} (h : SettledN B w r s x e) {B2 : Nat} {p : Bool} {s0 : Option Addr} {l0 c0 : Nat} {i0 : Int} {T : TypeId} {fr : Nat × Nat} (hb : w.heap[B2]? = some (.cells #[.bool p, .slice s0 l0 c0, .int .i64 i0] T fr)) (v0 v1 v2 : Value) (hT : T ≠ 47 := by decide) :
    SettledN B (((w.setCell ⟨B2, 0, none⟩ v0).setCell ⟨B2, 1, none⟩ v1).setCell ⟨B2, 2, none⟩ v2) r s x e := ⟨h.told.set3 hb v0 v1 v2, h.new.set3 hb v0 v1 v2 hT⟩
/-- the answer's block behind two new blocks, and what is kept of it -/
theorem second_block (w : World) (o1 o2 : Obj) : ((w.alloc o1).alloc o2).heap[w.heap.size + 1]? = some o2 := by
  show ((w.heap.push _).push _)[w.heap.size + 1]? = _
  simp only [Array.getElem?_push, Array.size_push]
  rw [if_pos trivial]
structure Out3 (w : World) (B : Nat) : Prop where
  c0 : w.cell? ⟨B, 0, none⟩ = some (.bool false)
  c1 : w.cell? ⟨B, 1, none⟩ = some (.slice none 0 0)
  c2 : w.cell? ⟨B, 2, none⟩ = some (.int .i64 0)
  f0 : w.frozen? ⟨B, 0, none⟩ = false
  f1 : w.frozen? ⟨B, 1, none⟩ = false
  f2 : w.frozen? ⟨B, 2, none⟩ = false
theorem Gr.keepH {w w' : World} (g : Gr w w') {k : Nat} {o : Obj} (h : w.heap[k]? = some o) : w'.heap[k]? = some o := (g.block k (lt_of_heap h)).trans h

end Go.Proofs.Ytcgbdpgfpickaaa
namespace Go.Proofs.Ytcgbdpgfpickaaa
open Go.RowKit
set_option linter.unusedVariables false

theorem lim_zero {w : World} {ad : Option Addr} {n cap : Nat} (h : Lim w ad n cap 18446744073709551616 0) : n = 0 := by
  obtain ⟨ys, ry, dy⟩ := h
  have := (dy.zero_iff (by omega)).2 rfl
  rw [ry.len] at this
  exact this
theorem lim_pos {w : World} {ad : Option Addr} {n cap x : Nat} (h : Lim w ad n cap 18446744073709551616 x) (h0 : 0 < x) : ∃ k, n = k + 1 := by
  obtain ⟨ys, ry, dy⟩ := h
  refine ⟨n - 1, ?_⟩
  have h1 := (dy.zero_iff (by omega)).1
  rw [ry.len] at h1
  omega
theorem keep6 {W wo wn : World} {p q : Nat} {a0 a1 a2 b0 b1 b2 : Value} (g : Gr wo wn) (h : (wo.cell? ⟨p, 0, none⟩ = some a0 ∧ wo.cell? ⟨p, 1, none⟩ = some a1 ∧ wo.cell? ⟨p, 2, none⟩ = some a2 ∧ wo.cell? ⟨q, 0, none⟩ = some b0 ∧ wo.cell? ⟨q, 1, none⟩ = some b1 ∧ wo.cell? ⟨q, 2, none⟩ = some b2) ∧ Gr W wo) :
    (wn.cell? ⟨p, 0, none⟩ = some a0 ∧ wn.cell? ⟨p, 1, none⟩ = some a1 ∧ wn.cell? ⟨p, 2, none⟩ = some a2 ∧ wn.cell? ⟨q, 0, none⟩ = some b0 ∧ wn.cell? ⟨q, 1, none⟩ = some b1 ∧ wn.cell? ⟨q, 2, none⟩ = some b2) ∧ Gr W wn :=
  ⟨⟨g.keep h.1.1, g.keep h.1.2.1, g.keep h.1.2.2.1, g.keep h.1.2.2.2.1, g.keep h.1.2.2.2.2.1, g.keep h.1.2.2.2.2.2⟩, h.2.trans g⟩
/-- what a cell holds -/
def cellV (w : World) (b o : Nat) : Value := (w.cell? ⟨b, o, none⟩).getD undef
theorem cellV_some {w : World} {b o : Nat} {v : Value} (h : w.cell? ⟨b, o, none⟩ = some v) : w.cell? ⟨b, o, none⟩ = some (cellV w b o) := by
  unfold cellV; rw [h]; rfl
/-- three blocks of three cells, one behind the other -/
theorem boxes3 (w : World) (T : TypeId) (a0 a1 a2 b0 b1 b2 c0 c1 c2 : Value) : ∀ W W0, W0 = ((w.alloc (.cells #[a0, a1, a2] T)).alloc (.cells #[b0, b1, b2] T)).alloc (.cells #[c0, c1, c2] T) → W = W0.drew →
    (W.cell? ⟨w.heap.size, 0, none⟩ = some a0 ∧ W.cell? ⟨w.heap.size, 1, none⟩ = some a1 ∧ W.cell? ⟨w.heap.size, 2, none⟩ = some a2 ∧ W.cell? ⟨w.heap.size + 1, 0, none⟩ = some b0 ∧ W.cell? ⟨w.heap.size + 1, 1, none⟩ = some b1 ∧ W.cell? ⟨w.heap.size + 1, 2, none⟩ = some b2) ∧
    (W.cell? ⟨w.heap.size + 2, 0, none⟩ = some (cellV W (w.heap.size + 2) 0) ∧ W.cell? ⟨w.heap.size + 2, 1, none⟩ = some (cellV W (w.heap.size + 2) 1) ∧ W.cell? ⟨w.heap.size + 2, 2, none⟩ = some (cellV W (w.heap.size + 2) 2) ∧ W.frozen? ⟨w.heap.size + 2, 0, none⟩ = false ∧ W.frozen? ⟨w.heap.size + 2, 1, none⟩ = false ∧ W.frozen? ⟨w.heap.size + 2, 2, none⟩ = false) ∧ Gr w W := by
  intro W W0 hW0 hW
  subst hW0
  have h0 : W.heap[w.heap.size]? = some (.cells #[a0, a1, a2] T) := by
    rw [hW]
    show (((w.heap.push _).push _).push _)[w.heap.size]? = _
    simp only [Array.getElem?_push, Array.size_push]
    rw [if_neg (by omega), if_neg (by omega), if_pos trivial]
  have h1 : W.heap[w.heap.size + 1]? = some (.cells #[b0, b1, b2] T) := by
    rw [hW]
    show (((w.heap.push _).push _).push _)[w.heap.size + 1]? = _
    simp only [Array.getElem?_push, Array.size_push]
    rw [if_neg (by omega), if_pos trivial]
  have h2 : W.heap[w.heap.size + 2]? = some (.cells #[c0, c1, c2] T) := by
    rw [hW]
    show (((w.heap.push _).push _).push _)[w.heap.size + 2]? = _
    simp only [Array.getElem?_push, Array.size_push]
    rw [if_pos trivial]
  refine ⟨⟨?_, ?_, ?_, ?_, ?_, ?_⟩, ⟨?_, ?_, ?_, ?_, ?_, ?_⟩, hW ▸ ((((Gr.refl w).alloc _).alloc _).alloc _).drew⟩
  case refine_7 => exact cellV_some (v := c0) (by simp [World.cell?, h2])
  case refine_8 => exact cellV_some (v := c1) (by simp [World.cell?, h2])
  case refine_9 => exact cellV_some (v := c2) (by simp [World.cell?, h2])
  all_goals simp [World.cell?, World.frozen?, h0, h1, h2]

theorem keep3 {w wo wn : World} {a0 a1 a2 b0 b1 b2 : Value} (g : Gr wo wn) (h : (wo.cell? ⟨w.heap.size, 0, none⟩ = some a0 ∧ wo.cell? ⟨w.heap.size, 1, none⟩ = some a1 ∧ wo.cell? ⟨w.heap.size, 2, none⟩ = some a2 ∧ wo.cell? ⟨w.heap.size + 1, 0, none⟩ = some b0 ∧ wo.cell? ⟨w.heap.size + 1, 1, none⟩ = some b1 ∧ wo.cell? ⟨w.heap.size + 1, 2, none⟩ = some b2) ∧ (wo.cell? ⟨w.heap.size + 2, 0, none⟩ = some (cellV wo (w.heap.size + 2) 0) ∧ wo.cell? ⟨w.heap.size + 2, 1, none⟩ = some (cellV wo (w.heap.size + 2) 1) ∧ wo.cell? ⟨w.heap.size + 2, 2, none⟩ = some (cellV wo (w.heap.size + 2) 2) ∧ wo.frozen? ⟨w.heap.size + 2, 0, none⟩ = false ∧ wo.frozen? ⟨w.heap.size + 2, 1, none⟩ = false ∧ wo.frozen? ⟨w.heap.size + 2, 2, none⟩ = false) ∧ Gr w wo) :
    (wn.cell? ⟨w.heap.size, 0, none⟩ = some a0 ∧ wn.cell? ⟨w.heap.size, 1, none⟩ = some a1 ∧ wn.cell? ⟨w.heap.size, 2, none⟩ = some a2 ∧ wn.cell? ⟨w.heap.size + 1, 0, none⟩ = some b0 ∧ wn.cell? ⟨w.heap.size + 1, 1, none⟩ = some b1 ∧ wn.cell? ⟨w.heap.size + 1, 2, none⟩ = some b2) ∧ (wn.cell? ⟨w.heap.size + 2, 0, none⟩ = some (cellV wn (w.heap.size + 2) 0) ∧ wn.cell? ⟨w.heap.size + 2, 1, none⟩ = some (cellV wn (w.heap.size + 2) 1) ∧ wn.cell? ⟨w.heap.size + 2, 2, none⟩ = some (cellV wn (w.heap.size + 2) 2) ∧ wn.frozen? ⟨w.heap.size + 2, 0, none⟩ = false ∧ wn.frozen? ⟨w.heap.size + 2, 1, none⟩ = false ∧ wn.frozen? ⟨w.heap.size + 2, 2, none⟩ = false) ∧ Gr w wn := by
  obtain ⟨⟨h0, h1, h2, h3, h4, h5⟩, ⟨k0, k1, k2, k3, k4, k5⟩, hg⟩ := h
  exact ⟨⟨g.keep h0, g.keep h1, g.keep h2, g.keep h3, g.keep h4, g.keep h5⟩, ⟨cellV_some (g.keep k0), cellV_some (g.keep k1), cellV_some (g.keep k2), g.keepF (lt_of_cell' k0) k3, g.keepF (lt_of_cell' k1) k4, g.keepF (lt_of_cell' k2) k5⟩, hg.trans g⟩

theorem set3_some {wo : World} {p0 p1 p2 q : Addr} {v0 v1 v2 v : Value} (h : wo.cell? q = some v) : ∃ v', (((wo.setCell p0 v0).setCell p1 v1).setCell p2 v2).cell? q = some v' := by
  obtain ⟨u, hu⟩ := cell?_setCell_some (p := p0) (x := v0) h
  obtain ⟨u', hu'⟩ := cell?_setCell_some (p := p1) (x := v1) hu
  exact cell?_setCell_some (p := p2) (x := v2) hu'
theorem keepSt3 {w wo : World} {a0 a1 a2 b0 b1 b2 v0 v1 v2 : Value} {B2 : Nat} (hB : B2 = w.heap.size + 2) (h : (wo.cell? ⟨w.heap.size, 0, none⟩ = some a0 ∧ wo.cell? ⟨w.heap.size, 1, none⟩ = some a1 ∧ wo.cell? ⟨w.heap.size, 2, none⟩ = some a2 ∧ wo.cell? ⟨w.heap.size + 1, 0, none⟩ = some b0 ∧ wo.cell? ⟨w.heap.size + 1, 1, none⟩ = some b1 ∧ wo.cell? ⟨w.heap.size + 1, 2, none⟩ = some b2) ∧ (wo.cell? ⟨w.heap.size + 2, 0, none⟩ = some (cellV wo (w.heap.size + 2) 0) ∧ wo.cell? ⟨w.heap.size + 2, 1, none⟩ = some (cellV wo (w.heap.size + 2) 1) ∧ wo.cell? ⟨w.heap.size + 2, 2, none⟩ = some (cellV wo (w.heap.size + 2) 2) ∧ wo.frozen? ⟨w.heap.size + 2, 0, none⟩ = false ∧ wo.frozen? ⟨w.heap.size + 2, 1, none⟩ = false ∧ wo.frozen? ⟨w.heap.size + 2, 2, none⟩ = false) ∧ Gr w wo) :
    ((((wo.setCell ⟨B2, 0, none⟩ v0).setCell ⟨B2, 1, none⟩ v1).setCell ⟨B2, 2, none⟩ v2).cell? ⟨w.heap.size, 0, none⟩ = some a0 ∧ (((wo.setCell ⟨B2, 0, none⟩ v0).setCell ⟨B2, 1, none⟩ v1).setCell ⟨B2, 2, none⟩ v2).cell? ⟨w.heap.size, 1, none⟩ = some a1 ∧ (((wo.setCell ⟨B2, 0, none⟩ v0).setCell ⟨B2, 1, none⟩ v1).setCell ⟨B2, 2, none⟩ v2).cell? ⟨w.heap.size, 2, none⟩ = some a2 ∧ (((wo.setCell ⟨B2, 0, none⟩ v0).setCell ⟨B2, 1, none⟩ v1).setCell ⟨B2, 2, none⟩ v2).cell? ⟨w.heap.size + 1, 0, none⟩ = some b0 ∧ (((wo.setCell ⟨B2, 0, none⟩ v0).setCell ⟨B2, 1, none⟩ v1).setCell ⟨B2, 2, none⟩ v2).cell? ⟨w.heap.size + 1, 1, none⟩ = some b1 ∧ (((wo.setCell ⟨B2, 0, none⟩ v0).setCell ⟨B2, 1, none⟩ v1).setCell ⟨B2, 2, none⟩ v2).cell? ⟨w.heap.size + 1, 2, none⟩ = some b2) ∧ ((((wo.setCell ⟨B2, 0, none⟩ v0).setCell ⟨B2, 1, none⟩ v1).setCell ⟨B2, 2, none⟩ v2).cell? ⟨w.heap.size + 2, 0, none⟩ = some (cellV (((wo.setCell ⟨B2, 0, none⟩ v0).setCell ⟨B2, 1, none⟩ v1).setCell ⟨B2, 2, none⟩ v2) (w.heap.size + 2) 0) ∧ (((wo.setCell ⟨B2, 0, none⟩ v0).setCell ⟨B2, 1, none⟩ v1).setCell ⟨B2, 2, none⟩ v2).cell? ⟨w.heap.size + 2, 1, none⟩ = some (cellV (((wo.setCell ⟨B2, 0, none⟩ v0).setCell ⟨B2, 1, none⟩ v1).setCell ⟨B2, 2, none⟩ v2) (w.heap.size + 2) 1) ∧ (((wo.setCell ⟨B2, 0, none⟩ v0).setCell ⟨B2, 1, none⟩ v1).setCell ⟨B2, 2, none⟩ v2).cell? ⟨w.heap.size + 2, 2, none⟩ = some (cellV (((wo.setCell ⟨B2, 0, none⟩ v0).setCell ⟨B2, 1, none⟩ v1).setCell ⟨B2, 2, none⟩ v2) (w.heap.size + 2) 2) ∧ (((wo.setCell ⟨B2, 0, none⟩ v0).setCell ⟨B2, 1, none⟩ v1).setCell ⟨B2, 2, none⟩ v2).frozen? ⟨w.heap.size + 2, 0, none⟩ = false ∧ (((wo.setCell ⟨B2, 0, none⟩ v0).setCell ⟨B2, 1, none⟩ v1).setCell ⟨B2, 2, none⟩ v2).frozen? ⟨w.heap.size + 2, 1, none⟩ = false ∧ (((wo.setCell ⟨B2, 0, none⟩ v0).setCell ⟨B2, 1, none⟩ v1).setCell ⟨B2, 2, none⟩ v2).frozen? ⟨w.heap.size + 2, 2, none⟩ = false) ∧ Gr w (((wo.setCell ⟨B2, 0, none⟩ v0).setCell ⟨B2, 1, none⟩ v1).setCell ⟨B2, 2, none⟩ v2) := by
  obtain ⟨⟨h0, h1, h2, h3, h4, h5⟩, ⟨k0, k1, k2, k3, k4, k5⟩, hg⟩ := h
  refine ⟨⟨set3_far (by omega) h0, set3_far (by omega) h1, set3_far (by omega) h2, set3_far (by omega) h3, set3_far (by omega) h4, set3_far (by omega) h5⟩, ⟨?_, ?_, ?_, by simpa using k3, by simpa using k4, by simpa using k5⟩, ((hg.setCell (by show _ ≤ B2; omega) _).setCell (by show _ ≤ B2; omega) _).setCell (by show _ ≤ B2; omega) _⟩
  · obtain ⟨v, hv⟩ := set3_some k0
    exact cellV_some hv
  · obtain ⟨v, hv⟩ := set3_some k1
    exact cellV_some hv
  · obtain ⟨v, hv⟩ := set3_some k2
    exact cellV_some hv

end Go.Proofs.Ytcgbdpgfpickaaa
namespace Go.Proofs.Ytcgbdpgfpickaaa
open Go.RowKit
set_option linter.unusedVariables false

end Go.Proofs.Ytcgbdpgfpickaaa
namespace Go.Proofs.Ytcgbdpgfpickaaa
open Go.RowKit
set_option linter.unusedVariables false

end Go.Proofs.Ytcgbdpgfpickaaa
namespace Go.Proofs.Ytcgbdpgfpickaaa
open Go.RowKit
set_option linter.unusedVariables false

end Go.Proofs.Ytcgbdpgfpickaaa
namespace Go.Proofs.Ytcgbdpgfpickaaa
open Go.RowKit
set_option linter.unusedVariables false

end Go.Proofs.Ytcgbdpgfpickaaa
namespace Go.Proofs.Ytcgbdpgfpickaaa
open Go.RowKit
set_option linter.unusedVariables false

end Go.Proofs.Ytcgbdpgfpickaaa
namespace Go.Proofs.Ytcgbdpgfpickaaa
open Go.RowKit
set_option linter.unusedVariables false

end Go.Proofs.Ytcgbdpgfpickaaa
namespace Go.Proofs.Ytcgbdpgfpickaaa
open Go.RowKit
set_option linter.unusedVariables false

end Go.Proofs.Ytcgbdpgfpickaaa
