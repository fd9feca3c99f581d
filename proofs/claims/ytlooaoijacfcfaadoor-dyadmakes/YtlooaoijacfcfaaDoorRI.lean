import Derived.Test.YtlooaoijacfcfaaDoorRH
namespace Go.Proofs.YtlooaoijacfcfaaDoor
open Go.RowKit
set_option linter.unusedVariables false

theorem two_blocks' (w : World) (a0 a1 a2 b0 b1 b2 : Value) (W0 : World) (h : W0 = (w.alloc (.cells #[a0, a1, a2] 24)).alloc (.cells #[b0, b1, b2] 44)) :
    (W0.cell? ⟨w.heap.size, 0, none⟩ = some a0 ∧ W0.cell? ⟨w.heap.size, 1, none⟩ = some a1 ∧ W0.cell? ⟨w.heap.size, 2, none⟩ = some a2 ∧ W0.cell? ⟨w.heap.size + 1, 0, none⟩ = some b0 ∧ W0.cell? ⟨w.heap.size + 1, 1, none⟩ = some b1 ∧ W0.cell? ⟨w.heap.size + 1, 2, none⟩ = some b2) ∧ Gr w W0 := by
  have h0 : W0.heap[w.heap.size]? = some (.cells #[a0, a1, a2] 24) := by
    rw [h]
    show ((w.heap.push _).push _)[w.heap.size]? = _
    simp only [Array.getElem?_push, Array.size_push]
    rw [if_neg (by omega), if_pos trivial]
  have h1 : W0.heap[w.heap.size + 1]? = some (.cells #[b0, b1, b2] 44) := by
    rw [h]
    show ((w.heap.push _).push _)[w.heap.size + 1]? = _
    simp only [Array.getElem?_push, Array.size_push]
    rw [if_pos trivial]
  exact ⟨⟨by simp [World.cell?, h0], by simp [World.cell?, h0], by simp [World.cell?, h0], by simp [World.cell?, h1], by simp [World.cell?, h1], by simp [World.cell?, h1]⟩, h ▸ ((Gr.refl w).alloc _).alloc _⟩
theorem open_ofT {w : World} {b : Nat} {a0 a1 a2 : Value} {T : TypeId} (h : w.heap[b]? = some (.cells #[a0, a1, a2] T)) : w.frozen? ⟨b, 0, none⟩ = false ∧ w.frozen? ⟨b, 1, none⟩ = false ∧ w.frozen? ⟨b, 2, none⟩ = false := ⟨by simp [World.frozen?, h], by simp [World.frozen?, h], by simp [World.frozen?, h]⟩
theorem cells_ofT {w : World} {b : Nat} {a0 a1 a2 : Value} {T : TypeId} (h : w.heap[b]? = some (.cells #[a0, a1, a2] T)) : w.cell? ⟨b, 0, none⟩ = some a0 ∧ w.cell? ⟨b, 1, none⟩ = some a1 ∧ w.cell? ⟨b, 2, none⟩ = some a2 := ⟨by simp [World.cell?, h], by simp [World.cell?, h], by simp [World.cell?, h]⟩
theorem emod2 (v : Nat) : (v : Int) % 2 = ((v % 2 : Nat) : Int) := by omega
set_option maxRecDepth 10000 in
set_option maxHeartbeats 1600000 in
theorem rightDyad54 (s : Bool) (ad : Option Addr) (n cap : Nat) (e : Int) (xs : List Nat) (w : World) (rx : Row w ad n cap xs) (hx : ∀ x ∈ xs, x < 18446744073709551616) :
    Calls Tryd.prog 22 #[.agg #[.bool s, .slice ad n cap, .int .i64 e]] w fun r w' => r = .returned (.bool (rightB s xs e)) ∧ Gr w w' := by
  have hl := rx.le
  have hm := rx.max
  have hlen := rx.len
  by_cases hn : n = 0
  · clear rx hx
    subst hn
    cases s
    · by_cases he : e = 0
      · subst he
        rw [rightB_t (Or.inl ⟨hlen, rfl, rfl⟩)]
        go_enter Tryd.func22, Tryd.ntmps22
        go_wp2
        go_ret
        exact ⟨rfl, gr_box _⟩
      · have he' : (e == 0) = false := by simp [he]
        rw [rightB_f (by rintro (⟨_, _, h⟩ | ⟨h, _⟩) <;> omega)]
        go_enter Tryd.func22, Tryd.ntmps22
        go_wp2
        go_ret
        exact ⟨rfl, gr_box _⟩
    · rw [rightB_f (by rintro (⟨_, h, _⟩ | ⟨h, _⟩); exact absurd h (by simp); omega)]
      go_enter Tryd.func22, Tryd.ntmps22
      go_wp2
      go_ret
      exact ⟨rfl, gr_box _⟩
  · obtain ⟨p, o, rfl, hp, hc⟩ := rx.cells (by omega)
    have hcl := hc (n - 1) (by omega)
    have hc0 := hc 0 (by omega)
    have b0 := getD_lt (by omega) hx 0
    have H : Hid (RightD s xs e ↔ (n ≤ 4096 ∧ xs.getD (n - 1) 0 ≠ 0 ∧ xs.getD 0 0 % 2 = 1 ∧ -1048576 ≤ e ∧ e ≤ 1048576)) := by
      show _ ↔ _
      unfold RightD
      rw [hlen]
      omega
    clear rx hx hc hlen
    rw [Nat.add_zero] at hc0
    generalize xs.getD (n - 1) 0 = vl at *
    generalize xs.getD 0 0 = v0 at *
    have hm0 := emod2 v0
    have nz : ((n : Int) == 0) = false := by simp; omega
    by_cases h1 : n ≤ 4096
    · have h1' : (n : Int) ≤ 4096 := by omega
      by_cases h2 : vl = 0
      · subst h2
        rw [rightB_f (by rw [H.out]; omega)]
        go_enter Tryd.func22, Tryd.ntmps22
        go_wp2
        go_ret
        exact ⟨rfl, gr_box _⟩
      · have h2' : ((vl : Int) != 0) = true := by simp; omega
        by_cases h3 : v0 % 2 = 1
        · rw [h3] at hm0
          by_cases h4 : -1048576 ≤ e
          · by_cases h5 : e ≤ 1048576
            · rw [rightB_t (by rw [H.out]; omega)]
              go_enter Tryd.func22, Tryd.ntmps22
              go_wp2
              go_ret
              exact ⟨rfl, gr_box _⟩
            · rw [rightB_f (by rw [H.out]; omega)]
              go_enter Tryd.func22, Tryd.ntmps22
              go_wp2
              go_ret
              exact ⟨rfl, gr_box _⟩
          · rw [rightB_f (by rw [H.out]; omega)]
            go_enter Tryd.func22, Tryd.ntmps22
            go_wp2
            go_ret
            exact ⟨rfl, gr_box _⟩
        · have h3' : v0 % 2 = 0 := by omega
          rw [h3'] at hm0
          rw [rightB_f (by rw [H.out]; omega)]
          go_enter Tryd.func22, Tryd.ntmps22
          go_wp2
          go_ret
          exact ⟨rfl, gr_box _⟩
    · have h1' : ¬ (n : Int) ≤ 4096 := by omega
      rw [rightB_f (by rw [H.out]; omega)]
      go_enter Tryd.func22, Tryd.ntmps22
      go_wp2
      go_ret
      exact ⟨rfl, gr_box _⟩
theorem right25 (s : Bool) (ad : Option Addr) (n cap : Nat) (e : Int) (xs : List Nat) (w : World) (rx : Row w ad n cap xs) (hx : ∀ x ∈ xs, x < 18446744073709551616) :
    Calls Tryd.prog 7 #[.agg #[.bool s, .slice ad n cap, .int .i64 e]] w fun r w' => r = .returned (.bool (rightB s xs e)) ∧ Gr w w' := by
  have H : Hid (∀ w1, Gr w w1 → Calls Tryd.prog 22 #[.agg #[.bool s, .slice ad n cap, .int .i64 e]] w1 fun r w' => r = .returned (.bool (rightB s xs e)) ∧ Gr w1 w') := fun w1 g => rightDyad54 s ad n cap e xs w1 (rx.gr g) hx
  clear rx hx
  generalize rightB s xs e = rb at *
  go_enter Tryd.func7, Tryd.ntmps7
  go_wp2_with (go_at_call 22; (with_reducible refine (H.out _ ((Gr.refl w).alloc _)).mono ?_); rintro r w1 ⟨rfl, g1⟩)
  go_ret
  exact ⟨rfl, ((Gr.refl w).alloc _).trans g1⟩

end Go.Proofs.YtlooaoijacfcfaaDoor
