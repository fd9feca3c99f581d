import Derived.Test.YtlooaoijacfcfaaDoorD6
import Derived.Test.YtlooaoijacfcfaaDoorRL
namespace Go.Proofs.YtlooaoijacfcfaaDoor.Fl
open Go.RowKit
open Ieee
set_option linter.unusedVariables false

theorem of62 (x : Nat) (w : World) (hx : x < 18446744073709551616) :
    Calls Tryd.prog 39 #[.int .u64 (x : Int)] w fun e w' => ∃ ad' n' cap', e = .returned (.slice ad' n' cap') ∧ Lim w' ad' n' cap' 18446744073709551616 x ∧ Gr w w' := by
  have HR : Hid (Row (w.alloc (.cells #[.int .u64 (x : Int)] 39)) (some ⟨w.heap.size, 0, none⟩) 1 1 [x]) := by
    refine ⟨rfl, by omega, by omega, (fun h => by cases h), fun _ => ⟨w.heap.size, 0, rfl, by simp, fun j hj => ?_⟩⟩
    have : j = 0 := by omega
    subst this
    simp
  have HT : Hid (Calls Tryd.prog 52 #[.slice (some ⟨w.heap.size, 0, none⟩) 1 1] (w.alloc (.cells #[.int .u64 (x : Int)] 39)) fun e w' => ∃ ad' n' cap', e = .returned (.slice ad' n' cap') ∧ Lim w' ad' n' cap' 18446744073709551616 x ∧ Gr (w.alloc (.cells #[.int .u64 (x : Int)] 39)) w') := by
    have := trim77 _ 1 1 [x] _ HR.out (by omega) (by simpa using hx)
    rw [show nv 18446744073709551616 [x] = x by simp [nv]] at this
    exact this
  go_enter Tryd.func39, Tryd.ntmps39
  go_wp2_with (go_at_call 52; with_reducible refine HT.out.mono ?_; rintro e w' ⟨ad2, n2, cap2, rfl, hl, hgr⟩)
  go_ret
  exact ⟨_, _, _, rfl, hl, ((Gr.refl w).alloc _).trans hgr⟩
theorem mant_lt64 (r : Nat) : mant r < 18446744073709551616 := by
  have := mant_lt r
  omega
theorem num_block {w : World} {b : Nat} {v0 v1 v2 : Value} {T : TypeId} (h : w.heap[b]? = some (.cells #[v0, v1, v2] T)) :
    (w.cell? ⟨b, 0, none⟩ = some v0 ∧ w.cell? ⟨b, 1, none⟩ = some v1 ∧ w.cell? ⟨b, 2, none⟩ = some v2) ∧ w.frozen? ⟨b, 0, none⟩ = false ∧ w.frozen? ⟨b, 1, none⟩ = false ∧ w.frozen? ⟨b, 2, none⟩ = false := by
  refine ⟨⟨?_, ?_, ?_⟩, ?_, ?_, ?_⟩ <;> simp [World.cell?, World.frozen?, h]
theorem set3_gr {a w : World} (h : Gr a w) {b : Nat} (hb : a.heap.size ≤ b) (v0 v1 v2 : Value) : Gr a (((w.setCell ⟨b, 0, none⟩ v0).setCell ⟨b, 1, none⟩ v1).setCell ⟨b, 2, none⟩ v2) :=
  ((h.setCell (p := ⟨b, 0, none⟩) hb v0).setCell (p := ⟨b, 1, none⟩) hb v1).setCell (p := ⟨b, 2, none⟩) hb v2

set_option maxHeartbeats 800000 in
theorem float41 (s : Bool) (r : Nat) (w : World) (hr : r < 9218868437227405312) :
    Calls Tryd.prog 20 #[.float .f64 (W s r)] w fun res w' => ∃ ad n cap, res = .returned (.agg #[.bool s, .slice ad n cap, .int .i64 ((ex r : Int) - 1074)]) ∧ Lim w' ad n cap 18446744073709551616 (mant r) ∧ Gr w w' := by
  have h1 := bits14
  have hx := bit_exp s r (by omega)
  have hW : ((W s r : Nat) : Int) = (if s then (r : Int) + 9223372036854775808 else (r : Int)) := by
    unfold W; cases s <;> simp <;> omega
  have hm : Hid (((W s r : Nat) : Int) % 4503599627370496 = ((r % 4503599627370496 : Nat) : Int)) := by
    show _ = _
    rw [hW]; cases s <;> simp <;> omega
  have hn : (((W s r : Nat) : Int) / 9223372036854775808 == 1) = s := by
    rw [hW]
    cases s
    · simp; omega
    · simp; omega
  have hlt : W s r < 18446744073709551616 := W_lt s r (by omega)
  clear hW
  by_cases he : r / 4503599627370496 = 0
  · have hmant : r % 4503599627370496 = mant r := by unfold mant; rw [if_pos (by omega)]; omega
    have hexp : (-1074 : Int) = (ex r : Int) - 1074 := by unfold ex; omega
    rw [hmant] at hm
    rw [← hexp]
    rw [he] at hx
    have HN : Hid (∀ w1, Calls Tryd.prog 39 #[.int .u64 (((W s r : Nat) : Int) % 4503599627370496)] w1 fun e w' => ∃ ad' n' cap', e = .returned (.slice ad' n' cap') ∧ Lim w' ad' n' cap' 18446744073709551616 (mant r) ∧ Gr w1 w') := by
      intro w1
      rw [hm.out]
      exact of62 (mant r) w1 (mant_lt64 r)
    clear hmant hexp hm
    generalize W s r = x at *
    go_enter Tryd.func20, Tryd.ntmps20
    go_wp2_with (go_at_call 39; with_reducible refine (HN.out _).mono ?_; rintro r w1 ⟨a3, m3, k3, rfl, hl3, g3⟩; have hb1 := (g3.block w.heap.size (by simp)).trans (heap_alloc_new w _); have hc1 := num_block hb1)
    refine bodyPost_ret (v := .agg #[.bool s, .slice a3 m3 k3, .int .i64 (-1074)]) (by simp [results, Tryd.results20, go_sem, hc1]) rfl ⟨a3, m3, k3, rfl, hl3.set3 (hl3.apart hb1) _ _ _, set3_gr (((Gr.refl w).alloc _).trans g3) (Nat.le_refl _) _ _ _⟩
  · have hmant : r % 4503599627370496 + 4503599627370496 = mant r := by unfold mant; rw [if_neg (by omega)]; omega
    have hexp : ((r / 4503599627370496 : Nat) : Int) - 1075 = (ex r : Int) - 1074 := by unfold ex; omega
    have hq : r / 4503599627370496 < 2047 := by omega
    rw [← hexp]
    have HN : Hid (∀ w1, Calls Tryd.prog 39 #[.int .u64 (((W s r : Nat) : Int) % 4503599627370496 + 4503599627370496)] w1 fun e w' => ∃ ad' n' cap', e = .returned (.slice ad' n' cap') ∧ Lim w' ad' n' cap' 18446744073709551616 (mant r) ∧ Gr w1 w') := by
      intro w1
      rw [hm.out, show ((r % 4503599627370496 : Nat) : Int) + 4503599627370496 = ((mant r : Nat) : Int) by omega]
      exact of62 (mant r) w1 (mant_lt64 r)
    generalize hz : r / 4503599627370496 = q at *
    clear hmant hexp hm hz
    generalize W s r = x at *
    go_enter Tryd.func20, Tryd.ntmps20
    go_wp2_with (go_at_call 39; with_reducible refine (HN.out _).mono ?_; rintro r w1 ⟨a3, m3, k3, rfl, hl3, g3⟩; have hb1 := (g3.block w.heap.size (by simp)).trans (heap_alloc_new w _); have hc1 := num_block hb1)
    refine bodyPost_ret (v := .agg #[.bool s, .slice a3 m3 k3, .int .i64 ((q : Int) - 1075)]) (by simp [results, Tryd.results20, go_sem, hc1]) rfl ⟨a3, m3, k3, rfl, hl3.set3 (hl3.apart hb1) _ _ _, set3_gr (((Gr.refl w).alloc _).trans g3) (Nat.le_refl _) _ _ _⟩
end Go.Proofs.YtlooaoijacfcfaaDoor.Fl
