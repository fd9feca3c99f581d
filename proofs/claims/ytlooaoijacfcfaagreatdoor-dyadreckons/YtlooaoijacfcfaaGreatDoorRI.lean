import Derived.Test.YtlooaoijacfcfaaGreatDoorRH
import Derived.Test.YtlooaoijacfcfaaGreatDoorRf
namespace Go.Proofs.YtlooaoijacfcfaaGreatDoor
open Go.RowKit
set_option linter.unusedVariables false

theorem two_blocks' (w : World) (a0 a1 a2 b0 b1 b2 : Value) (W0 : World) (h : W0 = (w.alloc (.cells #[a0, a1, a2] 24)).alloc (.cells #[b0, b1, b2] 45)) :
    (W0.cell? ⟨w.heap.size, 0, none⟩ = some a0 ∧ W0.cell? ⟨w.heap.size, 1, none⟩ = some a1 ∧ W0.cell? ⟨w.heap.size, 2, none⟩ = some a2 ∧ W0.cell? ⟨w.heap.size + 1, 0, none⟩ = some b0 ∧ W0.cell? ⟨w.heap.size + 1, 1, none⟩ = some b1 ∧ W0.cell? ⟨w.heap.size + 1, 2, none⟩ = some b2) ∧ Gr w W0 := by
  have h0 : W0.heap[w.heap.size]? = some (.cells #[a0, a1, a2] 24) := by
    rw [h]
    show ((w.heap.push _).push _)[w.heap.size]? = _
    simp only [Array.getElem?_push, Array.size_push]
    rw [if_neg (by omega), if_pos trivial]
  have h1 : W0.heap[w.heap.size + 1]? = some (.cells #[b0, b1, b2] 45) := by
    rw [h]
    show ((w.heap.push _).push _)[w.heap.size + 1]? = _
    simp only [Array.getElem?_push, Array.size_push]
    rw [if_pos trivial]
  exact ⟨⟨by simp [World.cell?, h0], by simp [World.cell?, h0], by simp [World.cell?, h0], by simp [World.cell?, h1], by simp [World.cell?, h1], by simp [World.cell?, h1]⟩, h ▸ ((Gr.refl w).alloc _).alloc _⟩
theorem open_ofT {w : World} {b : Nat} {a0 a1 a2 : Value} {T : TypeId} (h : w.heap[b]? = some (.cells #[a0, a1, a2] T)) : w.frozen? ⟨b, 0, none⟩ = false ∧ w.frozen? ⟨b, 1, none⟩ = false ∧ w.frozen? ⟨b, 2, none⟩ = false := ⟨by simp [World.frozen?, h], by simp [World.frozen?, h], by simp [World.frozen?, h]⟩
theorem cells_ofT {w : World} {b : Nat} {a0 a1 a2 : Value} {T : TypeId} (h : w.heap[b]? = some (.cells #[a0, a1, a2] T)) : w.cell? ⟨b, 0, none⟩ = some a0 ∧ w.cell? ⟨b, 1, none⟩ = some a1 ∧ w.cell? ⟨b, 2, none⟩ = some a2 := ⟨by simp [World.cell?, h], by simp [World.cell?, h], by simp [World.cell?, h]⟩
theorem emod2 (v : Nat) : (v : Int) % 2 = ((v % 2 : Nat) : Int) := by omega
set_option maxRecDepth 10000 in
set_option maxHeartbeats 1600000 in
theorem rightDyad54 (s : Bool) (ad : Option Addr) (n cap : Nat) (e : Int) (xs : List Nat) (w : World) (rx : Row w ad n cap xs) (hx : ∀ x ∈ xs, x < 18446744073709551616) :
    Calls Tryz.prog 54 #[.agg #[.bool s, .slice ad n cap, .int .i64 e]] w fun r w' => r = .returned (.bool (rightB s xs e)) ∧ Gr w w' := by
  have hl := rx.le
  have hm := rx.max
  have hlen := rx.len
  by_cases hn : n = 0
  · clear rx hx
    subst hn
    cases s
    · by_cases he : e = 0
      · subst he
        rw [rightB_t (Or.inl ⟨hlen, rfl, rfl⟩)]
        go_enter Tryz.func54, Tryz.ntmps54
        go_wp2
        go_ret
        exact ⟨rfl, gr_box _⟩
      · have he' : (e == 0) = false := by simp [he]
        rw [rightB_f (by rintro (⟨_, _, h⟩ | ⟨h, _⟩) <;> omega)]
        go_enter Tryz.func54, Tryz.ntmps54
        go_wp2
        go_ret
        exact ⟨rfl, gr_box _⟩
    · rw [rightB_f (by rintro (⟨_, h, _⟩ | ⟨h, _⟩); exact absurd h (by simp); omega)]
      go_enter Tryz.func54, Tryz.ntmps54
      go_wp2
      go_ret
      exact ⟨rfl, gr_box _⟩
  · obtain ⟨p, o, rfl, hp, hc⟩ := rx.cells (by omega)
    have hcl := hc (n - 1) (by omega)
    have hc0 := hc 0 (by omega)
    have b0 := getD_lt (by omega) hx 0
    have H : Hid (RightD s xs e ↔ (n ≤ 4096 ∧ xs.getD (n - 1) 0 ≠ 0 ∧ xs.getD 0 0 % 2 = 1 ∧ -1048576 ≤ e ∧ e ≤ 1048576)) := by
      show _ ↔ _
      unfold RightD
      rw [hlen]
      omega
    clear rx hx hc hlen
    rw [Nat.add_zero] at hc0
    generalize xs.getD (n - 1) 0 = vl at *
    generalize xs.getD 0 0 = v0 at *
    have hm0 := emod2 v0
    have nz : ((n : Int) == 0) = false := by simp; omega
    by_cases h1 : n ≤ 4096
    · have h1' : (n : Int) ≤ 4096 := by omega
      by_cases h2 : vl = 0
      · subst h2
        rw [rightB_f (by rw [H.out]; omega)]
        go_enter Tryz.func54, Tryz.ntmps54
        go_wp2
        go_ret
        exact ⟨rfl, gr_box _⟩
      · have h2' : ((vl : Int) != 0) = true := by simp; omega
        by_cases h3 : v0 % 2 = 1
        · rw [h3] at hm0
          by_cases h4 : -1048576 ≤ e
          · by_cases h5 : e ≤ 1048576
            · rw [rightB_t (by rw [H.out]; omega)]
              go_enter Tryz.func54, Tryz.ntmps54
              go_wp2
              go_ret
              exact ⟨rfl, gr_box _⟩
            · rw [rightB_f (by rw [H.out]; omega)]
              go_enter Tryz.func54, Tryz.ntmps54
              go_wp2
              go_ret
              exact ⟨rfl, gr_box _⟩
          · rw [rightB_f (by rw [H.out]; omega)]
            go_enter Tryz.func54, Tryz.ntmps54
            go_wp2
            go_ret
            exact ⟨rfl, gr_box _⟩
        · have h3' : v0 % 2 = 0 := by omega
          rw [h3'] at hm0
          rw [rightB_f (by rw [H.out]; omega)]
          go_enter Tryz.func54, Tryz.ntmps54
          go_wp2
          go_ret
          exact ⟨rfl, gr_box _⟩
    · have h1' : ¬ (n : Int) ≤ 4096 := by omega
      rw [rightB_f (by rw [H.out]; omega)]
      go_enter Tryz.func54, Tryz.ntmps54
      go_wp2
      go_ret
      exact ⟨rfl, gr_box _⟩
theorem right25 (s : Bool) (ad : Option Addr) (n cap : Nat) (e : Int) (xs : List Nat) (w : World) (rx : Row w ad n cap xs) (hx : ∀ x ∈ xs, x < 18446744073709551616) :
    Calls Tryz.prog 25 #[.agg #[.bool s, .slice ad n cap, .int .i64 e]] w fun r w' => r = .returned (.bool (rightB s xs e)) ∧ Gr w w' := by
  have H : Hid (∀ w1, Gr w w1 → Calls Tryz.prog 54 #[.agg #[.bool s, .slice ad n cap, .int .i64 e]] w1 fun r w' => r = .returned (.bool (rightB s xs e)) ∧ Gr w1 w') := fun w1 g => rightDyad54 s ad n cap e xs w1 (rx.gr g) hx
  clear rx hx
  generalize rightB s xs e = rb at *
  go_enter Tryz.func25, Tryz.ntmps25
  go_wp2_with (go_at_call 54; (with_reducible refine (H.out _ ((Gr.refl w).alloc _)).mono ?_); rintro r w1 ⟨rfl, g1⟩)
  go_ret
  exact ⟨rfl, ((Gr.refl w).alloc _).trans g1⟩

set_option maxRecDepth 10000 in
set_option maxHeartbeats 1600000 in
/-- a dyad's number -/
theorem dyad28 (s : Bool) (ad : Option Addr) (n cap x : Nat) (e : Int) (w : World) (hx : Lim w ad n cap 18446744073709551616 x) (hb : bl x ≤ 68719476736) :
    Calls Tryz.prog 28 #[.agg #[.bool s, .slice ad n cap, .int .i64 e]] w fun r w' => ∃ ad' n' cap', r = .returned (.agg #[.bool s, .slice ad' n' cap', .int .i64 e]) ∧ Lim w' ad' n' cap' 18446744073709551616 x ∧ Gr w w' := by
  have HT : Hid (∀ w1, Gr w w1 → Calls Tryz.prog 61 #[.slice ad n cap] w1 fun r w' => ∃ ad' n' cap', r = .returned (.slice ad' n' cap') ∧ Lim w' ad' n' cap' 18446744073709551616 x ∧ Gr w1 w') := fun w1 g => by
    refine (trimL ad n cap x w1 (hx.gr g) hb).mono ?_
    rintro r w' ⟨a, b, c, h1, _, h3, h4⟩
    exact ⟨a, b, c, h1, h3, h4⟩
  clear hx
  have TB : Hid _ := two_blocks' w (.bool s) (.slice ad n cap) (.int .i64 e) (.bool false) (.slice none 0 0) (.int .i64 0) _ rfl
  have FB : Hid (((w.alloc (.cells #[.bool s, .slice ad n cap, .int .i64 e] 24)).alloc (.cells #[.bool false, .slice none 0 0, .int .i64 0] 45)).heap[w.heap.size + 1]? = some (.cells #[.bool false, .slice none 0 0, .int .i64 0] 45)) := second_block w (.cells #[.bool s, .slice ad n cap, .int .i64 e] 24) (.cells #[.bool false, .slice none 0 0, .int .i64 0] 45)
  have hne : w.heap.size + 1 ≠ w.heap.size := by omega
  have hle : w.heap.size ≤ w.heap.size + 1 := by omega
  go_enter Tryz.func28, Tryz.ntmps28
  go_wp2
  have hS0 : (((w.alloc (.cells #[.bool s, .slice ad n cap, .int .i64 e] 24)).alloc (.cells #[.bool false, .slice none 0 0, .int .i64 0] 45)).drew.cell? ⟨w.heap.size, 0, none⟩ = some (.bool s) ∧ ((w.alloc (.cells #[.bool s, .slice ad n cap, .int .i64 e] 24)).alloc (.cells #[.bool false, .slice none 0 0, .int .i64 0] 45)).drew.cell? ⟨w.heap.size, 1, none⟩ = some (.slice ad n cap) ∧ ((w.alloc (.cells #[.bool s, .slice ad n cap, .int .i64 e] 24)).alloc (.cells #[.bool false, .slice none 0 0, .int .i64 0] 45)).drew.cell? ⟨w.heap.size, 2, none⟩ = some (.int .i64 e) ∧ ((w.alloc (.cells #[.bool s, .slice ad n cap, .int .i64 e] 24)).alloc (.cells #[.bool false, .slice none 0 0, .int .i64 0] 45)).drew.cell? ⟨w.heap.size, 0, none⟩ = some (.bool s) ∧ ((w.alloc (.cells #[.bool s, .slice ad n cap, .int .i64 e] 24)).alloc (.cells #[.bool false, .slice none 0 0, .int .i64 0] 45)).drew.cell? ⟨w.heap.size, 1, none⟩ = some (.slice ad n cap) ∧ ((w.alloc (.cells #[.bool s, .slice ad n cap, .int .i64 e] 24)).alloc (.cells #[.bool false, .slice none 0 0, .int .i64 0] 45)).drew.cell? ⟨w.heap.size, 2, none⟩ = some (.int .i64 e)) ∧ (((w.alloc (.cells #[.bool s, .slice ad n cap, .int .i64 e] 24)).alloc (.cells #[.bool false, .slice none 0 0, .int .i64 0] 45)).drew.cell? ⟨w.heap.size + 1, 0, none⟩ = some (cellV ((w.alloc (.cells #[.bool s, .slice ad n cap, .int .i64 e] 24)).alloc (.cells #[.bool false, .slice none 0 0, .int .i64 0] 45)).drew (w.heap.size + 1) 0) ∧ ((w.alloc (.cells #[.bool s, .slice ad n cap, .int .i64 e] 24)).alloc (.cells #[.bool false, .slice none 0 0, .int .i64 0] 45)).drew.cell? ⟨w.heap.size + 1, 1, none⟩ = some (cellV ((w.alloc (.cells #[.bool s, .slice ad n cap, .int .i64 e] 24)).alloc (.cells #[.bool false, .slice none 0 0, .int .i64 0] 45)).drew (w.heap.size + 1) 1) ∧ ((w.alloc (.cells #[.bool s, .slice ad n cap, .int .i64 e] 24)).alloc (.cells #[.bool false, .slice none 0 0, .int .i64 0] 45)).drew.cell? ⟨w.heap.size + 1, 2, none⟩ = some (cellV ((w.alloc (.cells #[.bool s, .slice ad n cap, .int .i64 e] 24)).alloc (.cells #[.bool false, .slice none 0 0, .int .i64 0] 45)).drew (w.heap.size + 1) 2) ∧ ((w.alloc (.cells #[.bool s, .slice ad n cap, .int .i64 e] 24)).alloc (.cells #[.bool false, .slice none 0 0, .int .i64 0] 45)).drew.frozen? ⟨w.heap.size + 1, 0, none⟩ = false ∧ ((w.alloc (.cells #[.bool s, .slice ad n cap, .int .i64 e] 24)).alloc (.cells #[.bool false, .slice none 0 0, .int .i64 0] 45)).drew.frozen? ⟨w.heap.size + 1, 1, none⟩ = false ∧ ((w.alloc (.cells #[.bool s, .slice ad n cap, .int .i64 e] 24)).alloc (.cells #[.bool false, .slice none 0 0, .int .i64 0] 45)).drew.frozen? ⟨w.heap.size + 1, 2, none⟩ = false) ∧ Gr w ((w.alloc (.cells #[.bool s, .slice ad n cap, .int .i64 e] 24)).alloc (.cells #[.bool false, .slice none 0 0, .int .i64 0] 45)).drew := by
    obtain ⟨⟨x0, x1, x2, y0, y1, y2⟩, hg⟩ := TB.out
    exact ⟨⟨x0, x1, x2, x0, x1, x2⟩, ⟨cellV_some (v := .bool false) y0, cellV_some (v := .slice none 0 0) y1, cellV_some (v := .int .i64 0) y2, (open_ofT FB.out).1, (open_ofT FB.out).2.1, (open_ofT FB.out).2.2⟩, hg.drew⟩
  have HO : Hid (((w.alloc (.cells #[.bool s, .slice ad n cap, .int .i64 e] 24)).alloc (.cells #[.bool false, .slice none 0 0, .int .i64 0] 45)).drew.heap[w.heap.size + 1]? = some (.cells #[.bool false, .slice none 0 0, .int .i64 0] 45)) := FB.out
  clear TB FB
  generalize ((w.alloc (.cells #[.bool s, .slice ad n cap, .int .i64 e] 24)).alloc (.cells #[.bool false, .slice none 0 0, .int .i64 0] 45)) = W0 at *
  go_region_held3 (fun w' => (w'.cell? ⟨w.heap.size, 0, none⟩ = some (.bool s) ∧ w'.cell? ⟨w.heap.size, 1, none⟩ = some (.slice ad n cap) ∧ w'.cell? ⟨w.heap.size, 2, none⟩ = some (.int .i64 e) ∧ w'.cell? ⟨w.heap.size, 0, none⟩ = some (.bool s) ∧ w'.cell? ⟨w.heap.size, 1, none⟩ = some (.slice ad n cap) ∧ w'.cell? ⟨w.heap.size, 2, none⟩ = some (.int .i64 e)) ∧ (w'.cell? ⟨w.heap.size + 1, 0, none⟩ = some (cellV w' (w.heap.size + 1) 0) ∧ w'.cell? ⟨w.heap.size + 1, 1, none⟩ = some (cellV w' (w.heap.size + 1) 1) ∧ w'.cell? ⟨w.heap.size + 1, 2, none⟩ = some (cellV w' (w.heap.size + 1) 2) ∧ w'.frozen? ⟨w.heap.size + 1, 0, none⟩ = false ∧ w'.frozen? ⟨w.heap.size + 1, 1, none⟩ = false ∧ w'.frozen? ⟨w.heap.size + 1, 2, none⟩ = false) ∧ Gr w w') (first | (with_reducible assumption) | (apply keepG; (with_reducible assumption); (with_reducible assumption)) | (refine keepStG rfl hne hne hle ?_; (with_reducible assumption))) (first | (go_at_call 61; (with_reducible refine (HT.out _ ?gg).mono ?_); (case gg => exact And.right (And.right ‹_ ∧ _ ∧ Gr w _›)); rintro r w1 ⟨a3, m3, k3, rfl, hl3, g3⟩))
  have hS4 := keepG g3 hS0
  have k0 := hS4.2.1.1
  have k1 := hS4.2.1.2.1
  have k2 := hS4.2.1.2.2.1
  have hb1 : w1.heap[w.heap.size + 1]? = some (.cells #[.bool false, .slice none 0 0, .int .i64 0] 45) := g3.keepH HO.out
  have hl6 := hl3.apart hb1
  have hG := (((hS4.2.2.setCell (p := ⟨w.heap.size + 1, 0, none⟩) hle (.bool s)).setCell (p := ⟨w.heap.size + 1, 1, none⟩) hle (.slice a3 m3 k3)).setCell (p := ⟨w.heap.size + 1, 2, none⟩) hle (.int .i64 e))
  clear hS0 hS4 hb1 HO
  go_wp2
  refine bodyPost_ret (v := .agg #[.bool s, .slice a3 m3 k3, .int .i64 e]) ?_ rfl ⟨a3, m3, k3, rfl, hl3.set3 hl6 _ _ _, hG⟩
  simp [results, Tryz.results28, go_sem, k0, k1, k2]
set_option maxHeartbeats 1600000 in
/-- a number, scaled -/
theorem scaled38 (s : Bool) (ad : Option Addr) (n cap x : Nat) (e p : Int) (w : World) (hx : Lim w ad n cap 18446744073709551616 x) (e1 : -1048576 ≤ e) (e2 : e ≤ 1048576) (p1 : -2147483648 ≤ p) (p2 : p ≤ 2147483648) :
    Calls Tryz.prog 38 #[.agg #[.bool s, .slice ad n cap, .int .i64 e], .int .i64 p] w fun r w' => r = .returned (.agg #[.bool s, .slice ad n cap, .int .i64 (e + p)]) ∧ Lim w' ad n cap 18446744073709551616 x ∧ Gr w w' := by
  have H : Hid (Lim w ad n cap 18446744073709551616 x) := hx
  clear hx
  go_enter Tryz.func38, Tryz.ntmps38
  go_wp2
  have G : Gr w ((w.alloc (.cells #[.bool s, .slice ad n cap, .int .i64 e] 45)).alloc (.cells #[.bool s, .slice ad n cap, .int .i64 (e + p)] 45)) := gr2 _ _
  refine bodyPost_ret (v := .agg #[.bool s, .slice ad n cap, .int .i64 (e + p)]) (by simp [results, Tryz.results38, go_sem]) rfl ⟨rfl, H.out.gr G, G⟩
end Go.Proofs.YtlooaoijacfcfaaGreatDoor
