import Derived.Test.YteompnpfoplppaaRc
import Derived.Test.YteompnpfoplppaaNa
import Derived.Deep.RegionHeld3
import Derived.Test.YteompnpfoplppaaD4
namespace Go.Proofs.Yteompnpfoplppaa
open Go.RowKit
set_option linter.unusedVariables false

/-- a number's sign -/
def sn (neg : Bool) (x : Nat) : Int := if x = 0 then 0 else if neg then -1 else 1
theorem sg_sv (K : Int) (neg : Bool) (x : Nat) (e : Int) : sg (sv K neg x e) = sn neg x := by
  unfold sn
  by_cases h : x = 0
  · rw [if_pos h, h, sv_zero]; rfl
  · have := sv_sign K neg x e (by omega)
    rw [if_neg h]
    cases neg
    · exact sg_pos (this.2 rfl)
    · exact sg_neg (this.1 rfl)
/-- a number as a value: sign, limbs, power -/
abbrev nm (neg : Bool) (ad : Option Addr) (n cap : Nat) (e : Int) : Value := .agg #[.bool neg, .slice ad n cap, .int .i64 e]

theorem ret_bool {a b : Bool} (h : a = b) : Ending.returned (.bool a) = .returned (.bool b) := by rw [h]
theorem Gr.keep {w w' : World} (g : Gr w w') {b o : Nat} {v : Value} (h : w.cell? ⟨b, o, none⟩ = some v) : w'.cell? ⟨b, o, none⟩ = some v := (g.cell (lt_of_cell' h)).trans h
theorem Gr.keepF {w w' : World} (g : Gr w w') {b o : Nat} (hb : b < w.heap.size) (h : w.frozen? ⟨b, o, none⟩ = false) : w'.frozen? ⟨b, o, none⟩ = false := (g.frozen hb).trans h

theorem zero57 (neg : Bool) (ad : Option Addr) (n cap x : Nat) (e : Int) (w : World) (h : Lim w ad n cap 18446744073709551616 x) (hb : bl x ≤ 68719476736) :
    Calls Try.prog 57 #[.agg #[.bool neg, .slice ad n cap, .int .i64 e]] w fun r w' => r = .returned (.bool (decide (x = 0))) ∧ Gr w w' := by
  have hz : Hid (((bl x : Int) == 0) = decide (x = 0)) := by
    show _ = _
    rw [Bool.eq_iff_iff, beq_iff_eq, decide_eq_true_iff]
    have := bl_zero_iff (n := x)
    omega
  go_enter Try.func57, Try.ntmps57
  go_wp2_with (go_at_call 73; refine (bits73 _ _ _ x _ (h.gr ((Gr.refl w).alloc _)) hb).mono ?_; rintro r w1 ⟨rfl, g1⟩)
  go_ret
  exact ⟨ret_bool hz.out, ((Gr.refl w).alloc _).trans g1⟩

theorem sign67 (neg : Bool) (ad : Option Addr) (n cap x : Nat) (e : Int) (w : World) (h : Lim w ad n cap 18446744073709551616 x) (hb : bl x ≤ 68719476736) :
    Calls Try.prog 67 #[.agg #[.bool neg, .slice ad n cap, .int .i64 e]] w fun r w' => r = .returned (.int .i64 (sn neg x)) ∧ Gr w w' := by
  have H : Hid (∀ w1, Gr w w1 → Calls Try.prog 57 #[.agg #[.bool neg, .slice ad n cap, .int .i64 e]] w1 fun r w' => r = .returned (.bool (decide (x = 0))) ∧ Gr w1 w') := fun w1 g => zero57 neg ad n cap x e w1 (h.gr g) hb
  clear h hb
  unfold sn
  generalize hd : decide (x = 0) = d at *
  cases d
  · have hx : ¬ x = 0 := of_decide_eq_false hd
    rw [if_neg hx]
    clear hd hx
    cases neg
    all_goals
      go_enter Try.func67, Try.ntmps67
      go_wp2_with (go_at_call 57; with_reducible refine (H.out _ ((Gr.refl w).alloc _)).mono ?_; rintro r w1 ⟨rfl, g1⟩; have hc0 := g1.cell (p := ⟨w.heap.size, 0, none⟩) (by simp))
      go_ret
      exact ⟨rfl, ((Gr.refl w).alloc _).trans g1⟩
  · have hx : x = 0 := of_decide_eq_true hd
    rw [if_pos hx]
    clear hd hx
    go_enter Try.func67, Try.ntmps67
    go_wp2_with (go_at_call 57; with_reducible refine (H.out _ ((Gr.refl w).alloc _)).mono ?_; rintro r w1 ⟨rfl, g1⟩)
    go_ret
    exact ⟨rfl, ((Gr.refl w).alloc _).trans g1⟩

theorem keep2 {W wo wn : World} {b1 o1 b2 o2 : Nat} {v1 v2 : Value} (g : Gr wo wn) (h : wo.cell? ⟨b1, o1, none⟩ = some v1 ∧ wo.cell? ⟨b2, o2, none⟩ = some v2 ∧ Gr W wo) : wn.cell? ⟨b1, o1, none⟩ = some v1 ∧ wn.cell? ⟨b2, o2, none⟩ = some v2 ∧ Gr W wn :=
  ⟨g.keep h.1, g.keep h.2.1, h.2.2.trans g⟩

set_option maxHeartbeats 400000 in
theorem top68 (neg : Bool) (ad : Option Addr) (n cap x : Nat) (e : Int) (w : World) (h : Lim w ad n cap 18446744073709551616 x) (hb : bl x ≤ 68719476736) (e1 : -1000000000000 ≤ e) (e2 : e ≤ 1000000000000) :
    Calls Try.prog 68 #[.agg #[.bool neg, .slice ad n cap, .int .i64 e]] w fun r w' => r = .returned (.int .i64 (e + (bl x : Int))) ∧ Gr w w' := by
  have H : Hid (∀ w1, Gr w w1 → Calls Try.prog 73 #[.slice ad n cap] w1 fun r w' => r = .returned (.int .i64 (bl x : Int)) ∧ Gr w1 w') := fun w1 g => bits73 ad n cap x w1 (h.gr g) hb
  clear h
  go_enter Try.func68, Try.ntmps68
  go_wp2
  go_region_held3 (fun w' => w'.cell? ⟨w.heap.size, 1, none⟩ = some (.slice ad n cap) ∧ w'.cell? ⟨w.heap.size, 2, none⟩ = some (.int .i64 e) ∧ Gr w w') (first | exact ⟨by simp, by simp, ((Gr.refl w).alloc _).drew⟩ | exact keep2 ‹Gr _ _› ‹_ ∧ _ ∧ _›) (first | (go_at_call 73; refine (H.out _ (And.right (And.right ‹_ ∧ _ ∧ Gr w _›))).mono ?_; rintro r w1 ⟨rfl, g1⟩))
  have g := ‹_ ∧ _ ∧ Gr w w1›.2.2
  go_wp2
  go_ret
  exact ⟨ret_i64 (IntWalk.i64_in _ ⟨by omega, by omega⟩), g⟩

/-! a number turned about; a product -/
theorem minus70 (neg : Bool) (ad : Option Addr) (n cap : Nat) (e : Int) (w : World) :
    Calls Try.prog 70 #[.agg #[.bool neg, .slice ad n cap, .int .i64 e]] w fun r w' => r = .returned (.agg #[.bool (!neg), .slice ad n cap, .int .i64 e]) ∧ Gr w w' := by
  go_enter Try.func70, Try.ntmps70
  go_wp2
  refine bodyPost_ret (v := .agg #[.bool (!neg), .slice ad n cap, .int .i64 e]) (by simp [results, Try.results70, go_sem]) rfl ⟨rfl, ?_⟩
  exact ((Gr.refl w).alloc _).alloc _
end Go.Proofs.Yteompnpfoplppaa
namespace Go.Proofs.Yteompnpfoplppaa
open Go.RowKit
set_option linter.unusedVariables false

/-- what a cell holds -/
def cellV (w : World) (b o : Nat) : Value := (w.cell? ⟨b, o, none⟩).getD undef
theorem cellV_some {w : World} {b o : Nat} {v : Value} (h : w.cell? ⟨b, o, none⟩ = some v) : w.cell? ⟨b, o, none⟩ = some (cellV w b o) := by
  unfold cellV; rw [h]; rfl
/-- three blocks of three cells, one behind the other -/
theorem boxes3 (w : World) (T : TypeId) (a0 a1 a2 b0 b1 b2 c0 c1 c2 : Value) : ∀ W W0, W0 = ((w.alloc (.cells #[a0, a1, a2] T)).alloc (.cells #[b0, b1, b2] T)).alloc (.cells #[c0, c1, c2] T) → W = W0.drew →
    (W.cell? ⟨w.heap.size, 0, none⟩ = some a0 ∧ W.cell? ⟨w.heap.size, 1, none⟩ = some a1 ∧ W.cell? ⟨w.heap.size, 2, none⟩ = some a2 ∧ W.cell? ⟨w.heap.size + 1, 0, none⟩ = some b0 ∧ W.cell? ⟨w.heap.size + 1, 1, none⟩ = some b1 ∧ W.cell? ⟨w.heap.size + 1, 2, none⟩ = some b2) ∧
    (W.cell? ⟨w.heap.size + 2, 0, none⟩ = some (cellV W (w.heap.size + 2) 0) ∧ W.cell? ⟨w.heap.size + 2, 1, none⟩ = some (cellV W (w.heap.size + 2) 1) ∧ W.cell? ⟨w.heap.size + 2, 2, none⟩ = some (cellV W (w.heap.size + 2) 2) ∧ W.frozen? ⟨w.heap.size + 2, 0, none⟩ = false ∧ W.frozen? ⟨w.heap.size + 2, 1, none⟩ = false ∧ W.frozen? ⟨w.heap.size + 2, 2, none⟩ = false) ∧ Gr w W := by
  intro W W0 hW0 hW
  subst hW0
  have h0 : W.heap[w.heap.size]? = some (.cells #[a0, a1, a2] T) := by
    rw [hW]
    show (((w.heap.push _).push _).push _)[w.heap.size]? = _
    simp only [Array.getElem?_push, Array.size_push]
    rw [if_neg (by omega), if_neg (by omega), if_pos trivial]
  have h1 : W.heap[w.heap.size + 1]? = some (.cells #[b0, b1, b2] T) := by
    rw [hW]
    show (((w.heap.push _).push _).push _)[w.heap.size + 1]? = _
    simp only [Array.getElem?_push, Array.size_push]
    rw [if_neg (by omega), if_pos trivial]
  have h2 : W.heap[w.heap.size + 2]? = some (.cells #[c0, c1, c2] T) := by
    rw [hW]
    show (((w.heap.push _).push _).push _)[w.heap.size + 2]? = _
    simp only [Array.getElem?_push, Array.size_push]
    rw [if_pos trivial]
  refine ⟨⟨?_, ?_, ?_, ?_, ?_, ?_⟩, ⟨?_, ?_, ?_, ?_, ?_, ?_⟩, hW ▸ ((((Gr.refl w).alloc _).alloc _).alloc _).drew⟩
  case refine_7 => exact cellV_some (v := c0) (by simp [World.cell?, h2])
  case refine_8 => exact cellV_some (v := c1) (by simp [World.cell?, h2])
  case refine_9 => exact cellV_some (v := c2) (by simp [World.cell?, h2])
  all_goals simp [World.cell?, World.frozen?, h0, h1, h2]

theorem keep3 {w wo wn : World} {a0 a1 a2 b0 b1 b2 : Value} (g : Gr wo wn) (h : (wo.cell? ⟨w.heap.size, 0, none⟩ = some a0 ∧ wo.cell? ⟨w.heap.size, 1, none⟩ = some a1 ∧ wo.cell? ⟨w.heap.size, 2, none⟩ = some a2 ∧ wo.cell? ⟨w.heap.size + 1, 0, none⟩ = some b0 ∧ wo.cell? ⟨w.heap.size + 1, 1, none⟩ = some b1 ∧ wo.cell? ⟨w.heap.size + 1, 2, none⟩ = some b2) ∧ (wo.cell? ⟨w.heap.size + 2, 0, none⟩ = some (cellV wo (w.heap.size + 2) 0) ∧ wo.cell? ⟨w.heap.size + 2, 1, none⟩ = some (cellV wo (w.heap.size + 2) 1) ∧ wo.cell? ⟨w.heap.size + 2, 2, none⟩ = some (cellV wo (w.heap.size + 2) 2) ∧ wo.frozen? ⟨w.heap.size + 2, 0, none⟩ = false ∧ wo.frozen? ⟨w.heap.size + 2, 1, none⟩ = false ∧ wo.frozen? ⟨w.heap.size + 2, 2, none⟩ = false) ∧ Gr w wo) :
    (wn.cell? ⟨w.heap.size, 0, none⟩ = some a0 ∧ wn.cell? ⟨w.heap.size, 1, none⟩ = some a1 ∧ wn.cell? ⟨w.heap.size, 2, none⟩ = some a2 ∧ wn.cell? ⟨w.heap.size + 1, 0, none⟩ = some b0 ∧ wn.cell? ⟨w.heap.size + 1, 1, none⟩ = some b1 ∧ wn.cell? ⟨w.heap.size + 1, 2, none⟩ = some b2) ∧ (wn.cell? ⟨w.heap.size + 2, 0, none⟩ = some (cellV wn (w.heap.size + 2) 0) ∧ wn.cell? ⟨w.heap.size + 2, 1, none⟩ = some (cellV wn (w.heap.size + 2) 1) ∧ wn.cell? ⟨w.heap.size + 2, 2, none⟩ = some (cellV wn (w.heap.size + 2) 2) ∧ wn.frozen? ⟨w.heap.size + 2, 0, none⟩ = false ∧ wn.frozen? ⟨w.heap.size + 2, 1, none⟩ = false ∧ wn.frozen? ⟨w.heap.size + 2, 2, none⟩ = false) ∧ Gr w wn := by
  obtain ⟨⟨h0, h1, h2, h3, h4, h5⟩, ⟨k0, k1, k2, k3, k4, k5⟩, hg⟩ := h
  exact ⟨⟨g.keep h0, g.keep h1, g.keep h2, g.keep h3, g.keep h4, g.keep h5⟩, ⟨cellV_some (g.keep k0), cellV_some (g.keep k1), cellV_some (g.keep k2), g.keepF (lt_of_cell' k0) k3, g.keepF (lt_of_cell' k1) k4, g.keepF (lt_of_cell' k2) k5⟩, hg.trans g⟩

theorem set3_far {wo : World} {B2 b o : Nat} {v0 v1 v2 v : Value} (hb : B2 ≠ b) (h : wo.cell? ⟨b, o, none⟩ = some v) : (((wo.setCell ⟨B2, 0, none⟩ v0).setCell ⟨B2, 1, none⟩ v1).setCell ⟨B2, 2, none⟩ v2).cell? ⟨b, o, none⟩ = some v := by
  have ne : ∀ i, (⟨B2, i, none⟩ : Addr) ≠ ⟨b, o, none⟩ := fun i e => hb (by injection e)
  rw [World.cell?_setCell_other _ _ _ _ (ne 2), World.cell?_setCell_other _ _ _ _ (ne 1), World.cell?_setCell_other _ _ _ _ (ne 0)]
  exact h
theorem set3_some {wo : World} {p0 p1 p2 q : Addr} {v0 v1 v2 v : Value} (h : wo.cell? q = some v) : ∃ v', (((wo.setCell p0 v0).setCell p1 v1).setCell p2 v2).cell? q = some v' := by
  obtain ⟨u, hu⟩ := cell?_setCell_some (p := p0) (x := v0) h
  obtain ⟨u', hu'⟩ := cell?_setCell_some (p := p1) (x := v1) hu
  exact cell?_setCell_some (p := p2) (x := v2) hu'
theorem keepSt3 {w wo : World} {a0 a1 a2 b0 b1 b2 v0 v1 v2 : Value} {B2 : Nat} (hB : B2 = w.heap.size + 2) (h : (wo.cell? ⟨w.heap.size, 0, none⟩ = some a0 ∧ wo.cell? ⟨w.heap.size, 1, none⟩ = some a1 ∧ wo.cell? ⟨w.heap.size, 2, none⟩ = some a2 ∧ wo.cell? ⟨w.heap.size + 1, 0, none⟩ = some b0 ∧ wo.cell? ⟨w.heap.size + 1, 1, none⟩ = some b1 ∧ wo.cell? ⟨w.heap.size + 1, 2, none⟩ = some b2) ∧ (wo.cell? ⟨w.heap.size + 2, 0, none⟩ = some (cellV wo (w.heap.size + 2) 0) ∧ wo.cell? ⟨w.heap.size + 2, 1, none⟩ = some (cellV wo (w.heap.size + 2) 1) ∧ wo.cell? ⟨w.heap.size + 2, 2, none⟩ = some (cellV wo (w.heap.size + 2) 2) ∧ wo.frozen? ⟨w.heap.size + 2, 0, none⟩ = false ∧ wo.frozen? ⟨w.heap.size + 2, 1, none⟩ = false ∧ wo.frozen? ⟨w.heap.size + 2, 2, none⟩ = false) ∧ Gr w wo) :
    ((((wo.setCell ⟨B2, 0, none⟩ v0).setCell ⟨B2, 1, none⟩ v1).setCell ⟨B2, 2, none⟩ v2).cell? ⟨w.heap.size, 0, none⟩ = some a0 ∧ (((wo.setCell ⟨B2, 0, none⟩ v0).setCell ⟨B2, 1, none⟩ v1).setCell ⟨B2, 2, none⟩ v2).cell? ⟨w.heap.size, 1, none⟩ = some a1 ∧ (((wo.setCell ⟨B2, 0, none⟩ v0).setCell ⟨B2, 1, none⟩ v1).setCell ⟨B2, 2, none⟩ v2).cell? ⟨w.heap.size, 2, none⟩ = some a2 ∧ (((wo.setCell ⟨B2, 0, none⟩ v0).setCell ⟨B2, 1, none⟩ v1).setCell ⟨B2, 2, none⟩ v2).cell? ⟨w.heap.size + 1, 0, none⟩ = some b0 ∧ (((wo.setCell ⟨B2, 0, none⟩ v0).setCell ⟨B2, 1, none⟩ v1).setCell ⟨B2, 2, none⟩ v2).cell? ⟨w.heap.size + 1, 1, none⟩ = some b1 ∧ (((wo.setCell ⟨B2, 0, none⟩ v0).setCell ⟨B2, 1, none⟩ v1).setCell ⟨B2, 2, none⟩ v2).cell? ⟨w.heap.size + 1, 2, none⟩ = some b2) ∧ ((((wo.setCell ⟨B2, 0, none⟩ v0).setCell ⟨B2, 1, none⟩ v1).setCell ⟨B2, 2, none⟩ v2).cell? ⟨w.heap.size + 2, 0, none⟩ = some (cellV (((wo.setCell ⟨B2, 0, none⟩ v0).setCell ⟨B2, 1, none⟩ v1).setCell ⟨B2, 2, none⟩ v2) (w.heap.size + 2) 0) ∧ (((wo.setCell ⟨B2, 0, none⟩ v0).setCell ⟨B2, 1, none⟩ v1).setCell ⟨B2, 2, none⟩ v2).cell? ⟨w.heap.size + 2, 1, none⟩ = some (cellV (((wo.setCell ⟨B2, 0, none⟩ v0).setCell ⟨B2, 1, none⟩ v1).setCell ⟨B2, 2, none⟩ v2) (w.heap.size + 2) 1) ∧ (((wo.setCell ⟨B2, 0, none⟩ v0).setCell ⟨B2, 1, none⟩ v1).setCell ⟨B2, 2, none⟩ v2).cell? ⟨w.heap.size + 2, 2, none⟩ = some (cellV (((wo.setCell ⟨B2, 0, none⟩ v0).setCell ⟨B2, 1, none⟩ v1).setCell ⟨B2, 2, none⟩ v2) (w.heap.size + 2) 2) ∧ (((wo.setCell ⟨B2, 0, none⟩ v0).setCell ⟨B2, 1, none⟩ v1).setCell ⟨B2, 2, none⟩ v2).frozen? ⟨w.heap.size + 2, 0, none⟩ = false ∧ (((wo.setCell ⟨B2, 0, none⟩ v0).setCell ⟨B2, 1, none⟩ v1).setCell ⟨B2, 2, none⟩ v2).frozen? ⟨w.heap.size + 2, 1, none⟩ = false ∧ (((wo.setCell ⟨B2, 0, none⟩ v0).setCell ⟨B2, 1, none⟩ v1).setCell ⟨B2, 2, none⟩ v2).frozen? ⟨w.heap.size + 2, 2, none⟩ = false) ∧ Gr w (((wo.setCell ⟨B2, 0, none⟩ v0).setCell ⟨B2, 1, none⟩ v1).setCell ⟨B2, 2, none⟩ v2) := by
  obtain ⟨⟨h0, h1, h2, h3, h4, h5⟩, ⟨k0, k1, k2, k3, k4, k5⟩, hg⟩ := h
  refine ⟨⟨set3_far (by omega) h0, set3_far (by omega) h1, set3_far (by omega) h2, set3_far (by omega) h3, set3_far (by omega) h4, set3_far (by omega) h5⟩, ⟨?_, ?_, ?_, by simpa using k3, by simpa using k4, by simpa using k5⟩, ((hg.setCell (by show _ ≤ B2; omega) _).setCell (by show _ ≤ B2; omega) _).setCell (by show _ ≤ B2; omega) _⟩
  · obtain ⟨v, hv⟩ := set3_some k0
    exact cellV_some hv
  · obtain ⟨v, hv⟩ := set3_some k1
    exact cellV_some hv
  · obtain ⟨v, hv⟩ := set3_some k2
    exact cellV_some hv

/-- limbs lie in no block that holds a number's sign, limbs and power -/
theorem Lim.apart {w : World} {ad : Option Addr} {n cap B x : Nat} (h : Lim w ad n cap B x) {B2 : Nat} {p : Bool} {s0 : Option Addr} {l0 c0 : Nat} {i0 : Int} {T : TypeId} {fr : Nat × Nat} (hb : w.heap[B2]? = some (.cells #[.bool p, .slice s0 l0 c0, .int .i64 i0] T fr)) : 0 < n → ∀ a, ad = some a → a.block ≠ B2 := by
  obtain ⟨xs, h1, h2⟩ := h
  intro hp a ha he
  obtain ⟨b, off, hab, _, hc⟩ := h1.cells hp
  rw [ha] at hab
  injection hab with hab
  have h0 := hc 0 hp
  rw [hab] at he
  have he : b = B2 := he
  subst he
  simp only [World.cell?, hb] at h0
  match off, h0 with
  | 0, h0 => simp at h0
  | 1, h0 => simp at h0
  | 2, h0 => simp at h0
  | k + 3, h0 => simp at h0
theorem Lim.set3 {w : World} {ad : Option Addr} {n cap B x : Nat} (h : Lim w ad n cap B x) {B2 : Nat} (hb : 0 < n → ∀ a, ad = some a → a.block ≠ B2) (v0 v1 v2 : Value) : Lim (((w.setCell ⟨B2, 0, none⟩ v0).setCell ⟨B2, 1, none⟩ v1).setCell ⟨B2, 2, none⟩ v2) ad n cap B x := by
  obtain ⟨xs, h1, h2⟩ := h
  refine ⟨xs, ⟨h1.len, h1.le, h1.max, h1.nil, fun hp => ?_⟩, h2⟩
  obtain ⟨b, off, hab, hlt, hc⟩ := h1.cells hp
  refine ⟨b, off, hab, by simpa [World.setCell] using hlt, fun j hj => ?_⟩
  exact set3_far (fun e => hb hp _ hab e.symm) (hc j hj)

set_option maxHeartbeats 1600000 in
theorem times43 (s t : Bool) (ad1 ad2 : Option Addr) (n1 n2 c1 c2 x y : Nat) (e f : Int) (w : World) (hx : Lim w ad1 n1 c1 18446744073709551616 x) (hy : Lim w ad2 n2 c2 18446744073709551616 y) (bx : bl x ≤ 68719476736) (by' : bl y ≤ 68719476736)
    (e1 : -1000000000000 ≤ e) (e2 : e ≤ 1000000000000) (f1 : -1000000000000 ≤ f) (f2 : f ≤ 1000000000000) :
    Calls Try.prog 43 #[.agg #[.bool s, .slice ad1 n1 c1, .int .i64 e], .agg #[.bool t, .slice ad2 n2 c2, .int .i64 f]] w fun r w' => ∃ ad n cap, r = .returned (.agg #[.bool (s != t), .slice ad n cap, .int .i64 (e + f)]) ∧ Lim w' ad n cap 18446744073709551616 (x * y) ∧ Gr w w' := by
  have H : Hid (∀ w1, Gr w w1 → Calls Try.prog 66 #[.slice ad1 n1 c1, .slice ad2 n2 c2] w1 fun e w' => ∃ ad' n' cap', e = .returned (.slice ad' n' cap') ∧ Lim w' ad' n' cap' 18446744073709551616 (x * y) ∧ Gr w1 w') := fun w1 g => mul66 ad1 ad2 n1 n2 c1 c2 x y w1 (hx.gr g) (hy.gr g) bx by'
  clear hx hy
  go_enter Try.func43, Try.ntmps43
  go_wp2
  obtain ⟨W0, hW0⟩ : ∃ W0, W0 = ((w.alloc (.cells #[.bool s, .slice ad1 n1 c1, .int .i64 e] 51)).alloc (.cells #[.bool t, .slice ad2 n2 c2, .int .i64 f] 51)).alloc (.cells #[.bool false, .slice none 0 0, .int .i64 0] 51) := ⟨_, rfl⟩
  rw [← hW0]
  have hS0 := boxes3 w 51 _ _ _ _ _ _ _ _ _ _ W0 hW0 rfl
  have hB2 : Hid (W0.drew.heap[w.heap.size + 1 + 1]? = some (.cells #[.bool false, .slice none 0 0, .int .i64 0] 51)) := by
    show W0.heap[w.heap.size + 1 + 1]? = _
    rw [hW0]
    show (((w.heap.push _).push _).push _)[w.heap.size + 1 + 1]? = _
    simp only [Array.getElem?_push, Array.size_push]
    rw [if_pos trivial]
  clear hW0
  go_region_held3 (fun w' => (w'.cell? ⟨w.heap.size, 0, none⟩ = some (.bool s) ∧ w'.cell? ⟨w.heap.size, 1, none⟩ = some (.slice ad1 n1 c1) ∧ w'.cell? ⟨w.heap.size, 2, none⟩ = some (.int .i64 e) ∧ w'.cell? ⟨w.heap.size + 1, 0, none⟩ = some (.bool t) ∧ w'.cell? ⟨w.heap.size + 1, 1, none⟩ = some (.slice ad2 n2 c2) ∧ w'.cell? ⟨w.heap.size + 1, 2, none⟩ = some (.int .i64 f)) ∧ (w'.cell? ⟨w.heap.size + 2, 0, none⟩ = some (cellV w' (w.heap.size + 2) 0) ∧ w'.cell? ⟨w.heap.size + 2, 1, none⟩ = some (cellV w' (w.heap.size + 2) 1) ∧ w'.cell? ⟨w.heap.size + 2, 2, none⟩ = some (cellV w' (w.heap.size + 2) 2) ∧ w'.frozen? ⟨w.heap.size + 2, 0, none⟩ = false ∧ w'.frozen? ⟨w.heap.size + 2, 1, none⟩ = false ∧ w'.frozen? ⟨w.heap.size + 2, 2, none⟩ = false) ∧ Gr w w') (first | (with_reducible assumption) | (apply keep3; (with_reducible assumption); (with_reducible assumption)) | (refine keepSt3 rfl ?_; (with_reducible assumption))) (first | (go_at_call 66; refine (H.out _ (And.right (And.right ‹_ ∧ _ ∧ Gr w _›))).mono ?_; rintro r w1 ⟨a3, m3, k3, rfl, hl3, g3⟩))
  have hS1 := keep3 g3 hS0
  have k0 : w1.cell? ⟨w.heap.size + 1 + 1, 0, none⟩ = some (cellV w1 (w.heap.size + 2) 0) := hS1.2.1.1
  have k1 : w1.cell? ⟨w.heap.size + 1 + 1, 1, none⟩ = some (cellV w1 (w.heap.size + 2) 1) := hS1.2.1.2.1
  have k2 : w1.cell? ⟨w.heap.size + 1 + 1, 2, none⟩ = some (cellV w1 (w.heap.size + 2) 2) := hS1.2.1.2.2.1
  have hb1 : w1.heap[w.heap.size + 1 + 1]? = some (.cells #[.bool false, .slice none 0 0, .int .i64 0] 51) := by
    rw [g3.block _ (by have := hS0.2.1.1; exact lt_of_cell' this)]; exact hB2.out
  have hl4 := hl3.apart hb1
  have hg1 := hS1.2.2
  have hG := (((hg1.setCell (p := ⟨w.heap.size + 1 + 1, 0, none⟩) (by show _ ≤ w.heap.size + 1 + 1; omega) (.bool !s == t)).setCell (p := ⟨w.heap.size + 1 + 1, 1, none⟩) (by show _ ≤ w.heap.size + 1 + 1; omega) (.slice a3 m3 k3)).setCell (p := ⟨w.heap.size + 1 + 1, 2, none⟩) (by show _ ≤ w.heap.size + 1 + 1; omega) (.int .i64 (IntKind.i64.wrap (e + f))))
  clear hS0 hS1 hb1 hB2
  go_wp2
  refine bodyPost_ret (v := .agg #[.bool (s != t), .slice a3 m3 k3, .int .i64 (e + f)]) ?_ rfl ⟨a3, m3, k3, rfl, hl3.set3 hl4 _ _ _, hG⟩
  have hw : IntKind.i64.wrap (e + f) = e + f := IntWalk.i64_in _ ⟨by omega, by omega⟩
  simp [results, Try.results43, go_sem, k0, k1, k2, hw, bne]
end Go.Proofs.Yteompnpfoplppaa
namespace Go.Proofs.Yteompnpfoplppaa
open Go.RowKit
open Ieee
set_option linter.unusedVariables false

theorem mant_lt64 (r : Nat) : mant r < 18446744073709551616 := by
  have := mant_lt r
  omega
theorem num_block {w : World} {b : Nat} {v0 v1 v2 : Value} {T : TypeId} (h : w.heap[b]? = some (.cells #[v0, v1, v2] T)) :
    (w.cell? ⟨b, 0, none⟩ = some v0 ∧ w.cell? ⟨b, 1, none⟩ = some v1 ∧ w.cell? ⟨b, 2, none⟩ = some v2) ∧ w.frozen? ⟨b, 0, none⟩ = false ∧ w.frozen? ⟨b, 1, none⟩ = false ∧ w.frozen? ⟨b, 2, none⟩ = false := by
  refine ⟨⟨?_, ?_, ?_⟩, ?_, ?_, ?_⟩ <;> simp [World.cell?, World.frozen?, h]
theorem set3_gr {a w : World} (h : Gr a w) {b : Nat} (hb : a.heap.size ≤ b) (v0 v1 v2 : Value) : Gr a (((w.setCell ⟨b, 0, none⟩ v0).setCell ⟨b, 1, none⟩ v1).setCell ⟨b, 2, none⟩ v2) :=
  ((h.setCell (p := ⟨b, 0, none⟩) hb v0).setCell (p := ⟨b, 1, none⟩) hb v1).setCell (p := ⟨b, 2, none⟩) hb v2

set_option maxHeartbeats 800000 in
theorem float41 (s : Bool) (r : Nat) (w : World) (hr : r < 9218868437227405312) :
    Calls Try.prog 41 #[.float .f64 (W s r)] w fun res w' => ∃ ad n cap, res = .returned (.agg #[.bool s, .slice ad n cap, .int .i64 ((ex r : Int) - 1074)]) ∧ Lim w' ad n cap 18446744073709551616 (mant r) ∧ Gr w w' := by
  have h1 := bits14
  have hx := bit_exp s r (by omega)
  have hW : ((W s r : Nat) : Int) = (if s then (r : Int) + 9223372036854775808 else (r : Int)) := by
    unfold W; cases s <;> simp <;> omega
  have hm : Hid (((W s r : Nat) : Int) % 4503599627370496 = ((r % 4503599627370496 : Nat) : Int)) := by
    show _ = _
    rw [hW]; cases s <;> simp <;> omega
  have hn : (((W s r : Nat) : Int) / 9223372036854775808 == 1) = s := by
    rw [hW]
    cases s
    · simp; omega
    · simp; omega
  have hlt : W s r < 18446744073709551616 := W_lt s r (by omega)
  clear hW
  by_cases he : r / 4503599627370496 = 0
  · have hmant : r % 4503599627370496 = mant r := by unfold mant; rw [if_pos (by omega)]; omega
    have hexp : (-1074 : Int) = (ex r : Int) - 1074 := by unfold ex; omega
    rw [hmant] at hm
    rw [← hexp]
    rw [he] at hx
    have HN : Hid (∀ w1, Calls Try.prog 62 #[.int .u64 (((W s r : Nat) : Int) % 4503599627370496)] w1 fun e w' => ∃ ad' n' cap', e = .returned (.slice ad' n' cap') ∧ Lim w' ad' n' cap' 18446744073709551616 (mant r) ∧ Gr w1 w') := by
      intro w1
      rw [hm.out]
      exact of62 (mant r) w1 (mant_lt64 r)
    clear hmant hexp hm
    generalize W s r = x at *
    go_enter Try.func41, Try.ntmps41
    go_wp2_with (go_at_call 62; with_reducible refine (HN.out _).mono ?_; rintro r w1 ⟨a3, m3, k3, rfl, hl3, g3⟩; have hb1 := (g3.block w.heap.size (by simp)).trans (heap_alloc_new w _); have hc1 := num_block hb1)
    refine bodyPost_ret (v := .agg #[.bool s, .slice a3 m3 k3, .int .i64 (-1074)]) (by simp [results, Try.results41, go_sem, hc1]) rfl ⟨a3, m3, k3, rfl, hl3.set3 (hl3.apart hb1) _ _ _, set3_gr (((Gr.refl w).alloc _).trans g3) (Nat.le_refl _) _ _ _⟩
  · have hmant : r % 4503599627370496 + 4503599627370496 = mant r := by unfold mant; rw [if_neg (by omega)]; omega
    have hexp : ((r / 4503599627370496 : Nat) : Int) - 1075 = (ex r : Int) - 1074 := by unfold ex; omega
    have hq : r / 4503599627370496 < 2047 := by omega
    rw [← hexp]
    have HN : Hid (∀ w1, Calls Try.prog 62 #[.int .u64 (((W s r : Nat) : Int) % 4503599627370496 + 4503599627370496)] w1 fun e w' => ∃ ad' n' cap', e = .returned (.slice ad' n' cap') ∧ Lim w' ad' n' cap' 18446744073709551616 (mant r) ∧ Gr w1 w') := by
      intro w1
      rw [hm.out, show ((r % 4503599627370496 : Nat) : Int) + 4503599627370496 = ((mant r : Nat) : Int) by omega]
      exact of62 (mant r) w1 (mant_lt64 r)
    generalize hz : r / 4503599627370496 = q at *
    clear hmant hexp hm hz
    generalize W s r = x at *
    go_enter Try.func41, Try.ntmps41
    go_wp2_with (go_at_call 62; with_reducible refine (HN.out _).mono ?_; rintro r w1 ⟨a3, m3, k3, rfl, hl3, g3⟩; have hb1 := (g3.block w.heap.size (by simp)).trans (heap_alloc_new w _); have hc1 := num_block hb1)
    refine bodyPost_ret (v := .agg #[.bool s, .slice a3 m3 k3, .int .i64 ((q : Int) - 1075)]) (by simp [results, Try.results41, go_sem, hc1]) rfl ⟨a3, m3, k3, rfl, hl3.set3 (hl3.apart hb1) _ _ _, set3_gr (((Gr.refl w).alloc _).trans g3) (Nat.le_refl _) _ _ _⟩
end Go.Proofs.Yteompnpfoplppaa
