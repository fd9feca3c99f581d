import Derived.Test.YtnhekagmdniokaaDoorP30
import Derived.Test.YtnhekagmdniokaaDoorP31
import Derived.Test.YtnhekagmdniokaaDoorP01
import Derived.Deep.RegionHeld3
namespace Go.Proofs.YtnhekagmdniokaaDoor
open Go.RowKit
set_option linter.unusedVariables false

/-- a number's sign -/
def sn (neg : Bool) (x : Nat) : Int := if x = 0 then 0 else if neg then -1 else 1
theorem sg_sv (K : Int) (neg : Bool) (x : Nat) (e : Int) : sg (sv K neg x e) = sn neg x := by
  unfold sn
  by_cases h : x = 0
  · rw [if_pos h, h, sv_zero]; rfl
  · have := sv_sign K neg x e (by omega)
    rw [if_neg h]
    cases neg
    · exact sg_pos (this.2 rfl)
    · exact sg_neg (this.1 rfl)
theorem ret_boolR {a b : Bool} (h : a = b) : Ending.returned (.bool a) = .returned (.bool b) := by rw [h]
set_option maxRecDepth 10000 in
theorem zero57 (neg : Bool) (ad : Option Addr) (n cap x : Nat) (e : Int) (w : World) (h : Lim w ad n cap 18446744073709551616 x) (hb : bl x ≤ 68719476736) :
    Calls Tryd.prog 27 #[.agg #[.bool neg, .slice ad n cap, .int .i64 e]] w fun r w' => r = .returned (.bool (decide (x = 0))) ∧ Gr w w' := by
  have hz : Hid (((bl x : Int) == 0) = decide (x = 0)) := by
    show _ = _
    rw [Bool.eq_iff_iff, beq_iff_eq, decide_eq_true_iff]
    have := bl_zero_iff (n := x)
    omega
  go_enter Tryd.func27, Tryd.ntmps27
  go_wp2_with (go_at_call 13; refine (bits73 _ _ _ x _ (h.gr ((Gr.refl w).alloc _)) hb).mono ?_; rintro r w1 ⟨rfl, g1⟩)
  go_ret
  exact ⟨ret_boolR hz.out, ((Gr.refl w).alloc _).trans g1⟩

set_option maxRecDepth 10000 in
theorem sign67 (neg : Bool) (ad : Option Addr) (n cap x : Nat) (e : Int) (w : World) (h : Lim w ad n cap 18446744073709551616 x) (hb : bl x ≤ 68719476736) :
    Calls Tryd.prog 31 #[.agg #[.bool neg, .slice ad n cap, .int .i64 e]] w fun r w' => r = .returned (.int .i64 (sn neg x)) ∧ Gr w w' := by
  have H : Hid (∀ w1, Gr w w1 → Calls Tryd.prog 27 #[.agg #[.bool neg, .slice ad n cap, .int .i64 e]] w1 fun r w' => r = .returned (.bool (decide (x = 0))) ∧ Gr w1 w') := fun w1 g => zero57 neg ad n cap x e w1 (h.gr g) hb
  clear h hb
  unfold sn
  generalize hd : decide (x = 0) = d at *
  cases d
  · have hx : ¬ x = 0 := of_decide_eq_false hd
    rw [if_neg hx]
    clear hd hx
    cases neg
    all_goals
      go_enter Tryd.func31, Tryd.ntmps31
      go_wp2_with (go_at_call 27; with_reducible refine (H.out _ ((Gr.refl w).alloc _)).mono ?_; rintro r w1 ⟨rfl, g1⟩; have hc0 := g1.cell (p := ⟨w.heap.size, 0, none⟩) (by simp))
      go_ret
      exact ⟨rfl, ((Gr.refl w).alloc _).trans g1⟩
  · have hx : x = 0 := of_decide_eq_true hd
    rw [if_pos hx]
    clear hd hx
    go_enter Tryd.func31, Tryd.ntmps31
    go_wp2_with (go_at_call 27; with_reducible refine (H.out _ ((Gr.refl w).alloc _)).mono ?_; rintro r w1 ⟨rfl, g1⟩)
    go_ret
    exact ⟨rfl, ((Gr.refl w).alloc _).trans g1⟩

set_option maxHeartbeats 400000 in
set_option maxRecDepth 10000 in
theorem top68 (neg : Bool) (ad : Option Addr) (n cap x : Nat) (e : Int) (w : World) (h : Lim w ad n cap 18446744073709551616 x) (hb : bl x ≤ 68719476736) (e1 : -1000000000000 ≤ e) (e2 : e ≤ 1000000000000) :
    Calls Tryd.prog 28 #[.agg #[.bool neg, .slice ad n cap, .int .i64 e]] w fun r w' => r = .returned (.int .i64 (e + (bl x : Int))) ∧ Gr w w' := by
  have H : Hid (∀ w1, Gr w w1 → Calls Tryd.prog 13 #[.slice ad n cap] w1 fun r w' => r = .returned (.int .i64 (bl x : Int)) ∧ Gr w1 w') := fun w1 g => bits73 ad n cap x w1 (h.gr g) hb
  clear h
  go_enter Tryd.func28, Tryd.ntmps28
  go_wp2
  go_region_held3 (fun w' => w'.cell? ⟨w.heap.size, 1, none⟩ = some (.slice ad n cap) ∧ w'.cell? ⟨w.heap.size, 2, none⟩ = some (.int .i64 e) ∧ Gr w w') (first | exact ⟨by simp, by simp, ((Gr.refl w).alloc _).drew⟩ | exact keep2 ‹Gr _ _› ‹_ ∧ _ ∧ _›) (first | (go_at_call 13; refine (H.out _ (And.right (And.right ‹_ ∧ _ ∧ Gr w _›))).mono ?_; rintro r w1 ⟨rfl, g1⟩))
  have g := ‹_ ∧ _ ∧ Gr w w1›.2.2
  go_wp2
  go_ret
  exact ⟨ret_i64R (IntWalk.i64_in _ ⟨by omega, by omega⟩), g⟩

/-! a number turned about; a product -/
set_option maxRecDepth 10000 in
theorem minus70 (neg : Bool) (ad : Option Addr) (n cap : Nat) (e : Int) (w : World) :
    Calls Tryd.prog 33 #[.agg #[.bool neg, .slice ad n cap, .int .i64 e]] w fun r w' => r = .returned (.agg #[.bool (!neg), .slice ad n cap, .int .i64 e]) ∧ Gr w w' := by
  go_enter Tryd.func33, Tryd.ntmps33
  go_wp2
  refine bodyPost_ret (v := .agg #[.bool (!neg), .slice ad n cap, .int .i64 e]) (by simp [results, Tryd.results33, go_sem]) rfl ⟨rfl, ?_⟩
  exact ((Gr.refl w).alloc _).alloc _
end Go.Proofs.YtnhekagmdniokaaDoor
namespace Go.Proofs.YtnhekagmdniokaaDoor
open Go.RowKit
set_option linter.unusedVariables false

end Go.Proofs.YtnhekagmdniokaaDoor
namespace Go.Proofs.YtnhekagmdniokaaDoor
open Go.RowKit
open Ieee
set_option linter.unusedVariables false

theorem num_block {w : World} {b : Nat} {v0 v1 v2 : Value} {T : TypeId} (h : w.heap[b]? = some (.cells #[v0, v1, v2] T)) :
    (w.cell? ⟨b, 0, none⟩ = some v0 ∧ w.cell? ⟨b, 1, none⟩ = some v1 ∧ w.cell? ⟨b, 2, none⟩ = some v2) ∧ w.frozen? ⟨b, 0, none⟩ = false ∧ w.frozen? ⟨b, 1, none⟩ = false ∧ w.frozen? ⟨b, 2, none⟩ = false := by
  refine ⟨⟨?_, ?_, ?_⟩, ?_, ?_, ?_⟩ <;> simp [World.cell?, World.frozen?, h]
set_option maxRecDepth 10000 in
theorem set3_gr {a w : World} (h : Gr a w) {b : Nat} (hb : a.heap.size ≤ b) (v0 v1 v2 : Value) : Gr a (((w.setCell ⟨b, 0, none⟩ v0).setCell ⟨b, 1, none⟩ v1).setCell ⟨b, 2, none⟩ v2) :=
  ((h.setCell (p := ⟨b, 0, none⟩) hb v0).setCell (p := ⟨b, 1, none⟩) hb v1).setCell (p := ⟨b, 2, none⟩) hb v2

end Go.Proofs.YtnhekagmdniokaaDoor
