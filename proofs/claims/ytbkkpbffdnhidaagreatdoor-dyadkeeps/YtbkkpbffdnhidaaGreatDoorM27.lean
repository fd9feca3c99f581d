import Derived.Test.YtbkkpbffdnhidaaGreatDoorM23
import Derived.Test.YtbkkpbffdnhidaaGreatDoorM26
import Derived.Deep.DeepCutAuto
namespace Go.Proofs.YtbkkpbffdnhidaaGreatDoor
open Go.RowKit
set_option linter.unusedVariables false

theorem two_blocks' (w : World) (a0 a1 a2 b0 b1 b2 : Value) (W0 : World) (h : W0 = (w.alloc (.cells #[a0, a1, a2] 24)).alloc (.cells #[b0, b1, b2] 84)) :
    (W0.cell? ⟨w.heap.size, 0, none⟩ = some a0 ∧ W0.cell? ⟨w.heap.size, 1, none⟩ = some a1 ∧ W0.cell? ⟨w.heap.size, 2, none⟩ = some a2 ∧ W0.cell? ⟨w.heap.size + 1, 0, none⟩ = some b0 ∧ W0.cell? ⟨w.heap.size + 1, 1, none⟩ = some b1 ∧ W0.cell? ⟨w.heap.size + 1, 2, none⟩ = some b2) ∧ Gr w W0 := by
  have h0 : W0.heap[w.heap.size]? = some (.cells #[a0, a1, a2] 24) := by
    rw [h]
    show ((w.heap.push _).push _)[w.heap.size]? = _
    simp only [Array.getElem?_push, Array.size_push]
    rw [if_neg (by omega), if_pos trivial]
  have h1 : W0.heap[w.heap.size + 1]? = some (.cells #[b0, b1, b2] 84) := by
    rw [h]
    show ((w.heap.push _).push _)[w.heap.size + 1]? = _
    simp only [Array.getElem?_push, Array.size_push]
    rw [if_pos trivial]
  exact ⟨⟨by simp [World.cell?, h0], by simp [World.cell?, h0], by simp [World.cell?, h0], by simp [World.cell?, h1], by simp [World.cell?, h1], by simp [World.cell?, h1]⟩, h ▸ ((Gr.refl w).alloc _).alloc _⟩
theorem open_ofT {w : World} {b : Nat} {a0 a1 a2 : Value} {T : TypeId} (h : w.heap[b]? = some (.cells #[a0, a1, a2] T)) : w.frozen? ⟨b, 0, none⟩ = false ∧ w.frozen? ⟨b, 1, none⟩ = false ∧ w.frozen? ⟨b, 2, none⟩ = false := ⟨by simp [World.frozen?, h], by simp [World.frozen?, h], by simp [World.frozen?, h]⟩
theorem cells_ofT {w : World} {b : Nat} {a0 a1 a2 : Value} {T : TypeId} (h : w.heap[b]? = some (.cells #[a0, a1, a2] T)) : w.cell? ⟨b, 0, none⟩ = some a0 ∧ w.cell? ⟨b, 1, none⟩ = some a1 ∧ w.cell? ⟨b, 2, none⟩ = some a2 := ⟨by simp [World.cell?, h], by simp [World.cell?, h], by simp [World.cell?, h]⟩
theorem emod2 (v : Nat) : (v : Int) % 2 = ((v % 2 : Nat) : Int) := by omega
set_option maxRecDepth 10000 in
set_option maxHeartbeats 1600000 in
theorem rightDyad54 (s : Bool) (ad : Option Addr) (n cap : Nat) (e : Int) (xs : List Nat) (w : World) (rx : Row w ad n cap xs) (hx : ∀ x ∈ xs, x < 18446744073709551616) :
    Calls Tryz.prog 98 #[.agg #[.bool s, .slice ad n cap, .int .i64 e]] w fun r w' => r = .returned (.bool (rightB s xs e)) ∧ Gr w w' := by
  have hl := rx.le
  have hm := rx.max
  have hlen := rx.len
  by_cases hn : n = 0
  · clear rx hx
    subst hn
    cases s
    · by_cases he : e = 0
      · subst he
        rw [rightB_t (Or.inl ⟨hlen, rfl, rfl⟩)]
        go_enter Tryz.func98, Tryz.ntmps98
        go_wp2
        go_ret
        exact ⟨rfl, gr_box _⟩
      · have he' : (e == 0) = false := by simp [he]
        rw [rightB_f (by rintro (⟨_, _, h⟩ | ⟨h, _⟩) <;> omega)]
        go_enter Tryz.func98, Tryz.ntmps98
        go_wp2
        go_ret
        exact ⟨rfl, gr_box _⟩
    · rw [rightB_f (by rintro (⟨_, h, _⟩ | ⟨h, _⟩); exact absurd h (by simp); omega)]
      go_enter Tryz.func98, Tryz.ntmps98
      go_wp2
      go_ret
      exact ⟨rfl, gr_box _⟩
  · obtain ⟨p, o, rfl, hp, hc⟩ := rx.cells (by omega)
    have hcl := hc (n - 1) (by omega)
    have hc0 := hc 0 (by omega)
    have b0 := getD_lt (by omega) hx 0
    have H : Hid (RightD s xs e ↔ (n ≤ 4096 ∧ xs.getD (n - 1) 0 ≠ 0 ∧ xs.getD 0 0 % 2 = 1 ∧ -1048576 ≤ e ∧ e ≤ 1048576)) := by
      show _ ↔ _
      unfold RightD
      rw [hlen]
      omega
    clear rx hx hc hlen
    rw [Nat.add_zero] at hc0
    generalize xs.getD (n - 1) 0 = vl at *
    generalize xs.getD 0 0 = v0 at *
    have hm0 := emod2 v0
    have nz : ((n : Int) == 0) = false := by simp; omega
    by_cases h1 : n ≤ 4096
    · have h1' : (n : Int) ≤ 4096 := by omega
      by_cases h2 : vl = 0
      · subst h2
        rw [rightB_f (by rw [H.out]; omega)]
        go_enter Tryz.func98, Tryz.ntmps98
        go_wp2
        go_ret
        exact ⟨rfl, gr_box _⟩
      · have h2' : ((vl : Int) != 0) = true := by simp; omega
        by_cases h3 : v0 % 2 = 1
        · rw [h3] at hm0
          by_cases h4 : -1048576 ≤ e
          · by_cases h5 : e ≤ 1048576
            · rw [rightB_t (by rw [H.out]; omega)]
              go_enter Tryz.func98, Tryz.ntmps98
              go_wp2
              go_ret
              exact ⟨rfl, gr_box _⟩
            · rw [rightB_f (by rw [H.out]; omega)]
              go_enter Tryz.func98, Tryz.ntmps98
              go_wp2
              go_ret
              exact ⟨rfl, gr_box _⟩
          · rw [rightB_f (by rw [H.out]; omega)]
            go_enter Tryz.func98, Tryz.ntmps98
            go_wp2
            go_ret
            exact ⟨rfl, gr_box _⟩
        · have h3' : v0 % 2 = 0 := by omega
          rw [h3'] at hm0
          rw [rightB_f (by rw [H.out]; omega)]
          go_enter Tryz.func98, Tryz.ntmps98
          go_wp2
          go_ret
          exact ⟨rfl, gr_box _⟩
    · have h1' : ¬ (n : Int) ≤ 4096 := by omega
      rw [rightB_f (by rw [H.out]; omega)]
      go_enter Tryz.func98, Tryz.ntmps98
      go_wp2
      go_ret
      exact ⟨rfl, gr_box _⟩
theorem right25 (s : Bool) (ad : Option Addr) (n cap : Nat) (e : Int) (xs : List Nat) (w : World) (rx : Row w ad n cap xs) (hx : ∀ x ∈ xs, x < 18446744073709551616) :
    Calls Tryz.prog 61 #[.agg #[.bool s, .slice ad n cap, .int .i64 e]] w fun r w' => r = .returned (.bool (rightB s xs e)) ∧ Gr w w' := by
  have H : Hid (∀ w1, Gr w w1 → Calls Tryz.prog 98 #[.agg #[.bool s, .slice ad n cap, .int .i64 e]] w1 fun r w' => r = .returned (.bool (rightB s xs e)) ∧ Gr w1 w') := fun w1 g => rightDyad54 s ad n cap e xs w1 (rx.gr g) hx
  clear rx hx
  generalize rightB s xs e = rb at *
  go_enter Tryz.func61, Tryz.ntmps61
  go_wp2_with (go_at_call 98; (with_reducible refine (H.out _ ((Gr.refl w).alloc _)).mono ?_); rintro r w1 ⟨rfl, g1⟩)
  go_ret
  exact ⟨rfl, ((Gr.refl w).alloc _).trans g1⟩

set_option maxRecDepth 10000 in
set_option maxHeartbeats 1600000 in
/-- a dyad's number -/
theorem dyad28 (s : Bool) (ad : Option Addr) (n cap x : Nat) (e : Int) (w : World) (hx : Lim w ad n cap 18446744073709551616 x) (hb : bl x ≤ 68719476736) :
    Calls Tryz.prog 64 #[.agg #[.bool s, .slice ad n cap, .int .i64 e]] w fun r w' => ∃ ad' n' cap', r = .returned (.agg #[.bool s, .slice ad' n' cap', .int .i64 e]) ∧ Lim w' ad' n' cap' 18446744073709551616 x ∧ Gr w w' := by
  have HT : Hid (∀ w1, Gr w w1 → Calls Tryz.prog 105 #[.slice ad n cap] w1 fun r w' => ∃ ad' n' cap', r = .returned (.slice ad' n' cap') ∧ Lim w' ad' n' cap' 18446744073709551616 x ∧ Gr w1 w') := fun w1 g => by
    refine (trimL ad n cap x w1 (hx.gr g) hb).mono ?_
    rintro r w' ⟨a, b, c, h1, _, h3, h4⟩
    exact ⟨a, b, c, h1, h3, h4⟩
  clear hx
  have TB : Hid _ := two_blocks' w (.bool s) (.slice ad n cap) (.int .i64 e) (.bool false) (.slice none 0 0) (.int .i64 0) _ rfl
  have FB : Hid (((w.alloc (.cells #[.bool s, .slice ad n cap, .int .i64 e] 24)).alloc (.cells #[.bool false, .slice none 0 0, .int .i64 0] 84)).heap[w.heap.size + 1]? = some (.cells #[.bool false, .slice none 0 0, .int .i64 0] 84)) := second_block w (.cells #[.bool s, .slice ad n cap, .int .i64 e] 24) (.cells #[.bool false, .slice none 0 0, .int .i64 0] 84)
  have hne : w.heap.size + 1 ≠ w.heap.size := by omega
  have hle : w.heap.size ≤ w.heap.size + 1 := by omega
  go_enter Tryz.func64, Tryz.ntmps64
  go_wp2
  have hS0 : (((w.alloc (.cells #[.bool s, .slice ad n cap, .int .i64 e] 24)).alloc (.cells #[.bool false, .slice none 0 0, .int .i64 0] 84)).drew.cell? ⟨w.heap.size, 0, none⟩ = some (.bool s) ∧ ((w.alloc (.cells #[.bool s, .slice ad n cap, .int .i64 e] 24)).alloc (.cells #[.bool false, .slice none 0 0, .int .i64 0] 84)).drew.cell? ⟨w.heap.size, 1, none⟩ = some (.slice ad n cap) ∧ ((w.alloc (.cells #[.bool s, .slice ad n cap, .int .i64 e] 24)).alloc (.cells #[.bool false, .slice none 0 0, .int .i64 0] 84)).drew.cell? ⟨w.heap.size, 2, none⟩ = some (.int .i64 e) ∧ ((w.alloc (.cells #[.bool s, .slice ad n cap, .int .i64 e] 24)).alloc (.cells #[.bool false, .slice none 0 0, .int .i64 0] 84)).drew.cell? ⟨w.heap.size, 0, none⟩ = some (.bool s) ∧ ((w.alloc (.cells #[.bool s, .slice ad n cap, .int .i64 e] 24)).alloc (.cells #[.bool false, .slice none 0 0, .int .i64 0] 84)).drew.cell? ⟨w.heap.size, 1, none⟩ = some (.slice ad n cap) ∧ ((w.alloc (.cells #[.bool s, .slice ad n cap, .int .i64 e] 24)).alloc (.cells #[.bool false, .slice none 0 0, .int .i64 0] 84)).drew.cell? ⟨w.heap.size, 2, none⟩ = some (.int .i64 e)) ∧ (((w.alloc (.cells #[.bool s, .slice ad n cap, .int .i64 e] 24)).alloc (.cells #[.bool false, .slice none 0 0, .int .i64 0] 84)).drew.cell? ⟨w.heap.size + 1, 0, none⟩ = some (cellV ((w.alloc (.cells #[.bool s, .slice ad n cap, .int .i64 e] 24)).alloc (.cells #[.bool false, .slice none 0 0, .int .i64 0] 84)).drew (w.heap.size + 1) 0) ∧ ((w.alloc (.cells #[.bool s, .slice ad n cap, .int .i64 e] 24)).alloc (.cells #[.bool false, .slice none 0 0, .int .i64 0] 84)).drew.cell? ⟨w.heap.size + 1, 1, none⟩ = some (cellV ((w.alloc (.cells #[.bool s, .slice ad n cap, .int .i64 e] 24)).alloc (.cells #[.bool false, .slice none 0 0, .int .i64 0] 84)).drew (w.heap.size + 1) 1) ∧ ((w.alloc (.cells #[.bool s, .slice ad n cap, .int .i64 e] 24)).alloc (.cells #[.bool false, .slice none 0 0, .int .i64 0] 84)).drew.cell? ⟨w.heap.size + 1, 2, none⟩ = some (cellV ((w.alloc (.cells #[.bool s, .slice ad n cap, .int .i64 e] 24)).alloc (.cells #[.bool false, .slice none 0 0, .int .i64 0] 84)).drew (w.heap.size + 1) 2) ∧ ((w.alloc (.cells #[.bool s, .slice ad n cap, .int .i64 e] 24)).alloc (.cells #[.bool false, .slice none 0 0, .int .i64 0] 84)).drew.frozen? ⟨w.heap.size + 1, 0, none⟩ = false ∧ ((w.alloc (.cells #[.bool s, .slice ad n cap, .int .i64 e] 24)).alloc (.cells #[.bool false, .slice none 0 0, .int .i64 0] 84)).drew.frozen? ⟨w.heap.size + 1, 1, none⟩ = false ∧ ((w.alloc (.cells #[.bool s, .slice ad n cap, .int .i64 e] 24)).alloc (.cells #[.bool false, .slice none 0 0, .int .i64 0] 84)).drew.frozen? ⟨w.heap.size + 1, 2, none⟩ = false) ∧ Gr w ((w.alloc (.cells #[.bool s, .slice ad n cap, .int .i64 e] 24)).alloc (.cells #[.bool false, .slice none 0 0, .int .i64 0] 84)).drew := by
    obtain ⟨⟨x0, x1, x2, y0, y1, y2⟩, hg⟩ := TB.out
    exact ⟨⟨x0, x1, x2, x0, x1, x2⟩, ⟨cellV_some (v := .bool false) y0, cellV_some (v := .slice none 0 0) y1, cellV_some (v := .int .i64 0) y2, (open_ofT FB.out).1, (open_ofT FB.out).2.1, (open_ofT FB.out).2.2⟩, hg.drew⟩
  have HO : Hid (((w.alloc (.cells #[.bool s, .slice ad n cap, .int .i64 e] 24)).alloc (.cells #[.bool false, .slice none 0 0, .int .i64 0] 84)).drew.heap[w.heap.size + 1]? = some (.cells #[.bool false, .slice none 0 0, .int .i64 0] 84)) := FB.out
  clear TB FB
  generalize ((w.alloc (.cells #[.bool s, .slice ad n cap, .int .i64 e] 24)).alloc (.cells #[.bool false, .slice none 0 0, .int .i64 0] 84)) = W0 at *
  go_region_held3 (fun w' => (w'.cell? ⟨w.heap.size, 0, none⟩ = some (.bool s) ∧ w'.cell? ⟨w.heap.size, 1, none⟩ = some (.slice ad n cap) ∧ w'.cell? ⟨w.heap.size, 2, none⟩ = some (.int .i64 e) ∧ w'.cell? ⟨w.heap.size, 0, none⟩ = some (.bool s) ∧ w'.cell? ⟨w.heap.size, 1, none⟩ = some (.slice ad n cap) ∧ w'.cell? ⟨w.heap.size, 2, none⟩ = some (.int .i64 e)) ∧ (w'.cell? ⟨w.heap.size + 1, 0, none⟩ = some (cellV w' (w.heap.size + 1) 0) ∧ w'.cell? ⟨w.heap.size + 1, 1, none⟩ = some (cellV w' (w.heap.size + 1) 1) ∧ w'.cell? ⟨w.heap.size + 1, 2, none⟩ = some (cellV w' (w.heap.size + 1) 2) ∧ w'.frozen? ⟨w.heap.size + 1, 0, none⟩ = false ∧ w'.frozen? ⟨w.heap.size + 1, 1, none⟩ = false ∧ w'.frozen? ⟨w.heap.size + 1, 2, none⟩ = false) ∧ Gr w w') (first | (with_reducible assumption) | (apply keepG; (with_reducible assumption); (with_reducible assumption)) | (refine keepStG rfl hne hne hle ?_; (with_reducible assumption))) (first | (go_at_call 105; (with_reducible refine (HT.out _ ?gg).mono ?_); (case gg => exact And.right (And.right ‹_ ∧ _ ∧ Gr w _›)); rintro r w1 ⟨a3, m3, k3, rfl, hl3, g3⟩))
  have hS4 := keepG g3 hS0
  have k0 := hS4.2.1.1
  have k1 := hS4.2.1.2.1
  have k2 := hS4.2.1.2.2.1
  have hb1 : w1.heap[w.heap.size + 1]? = some (.cells #[.bool false, .slice none 0 0, .int .i64 0] 84) := g3.keepH HO.out
  have hl6 := hl3.apart hb1
  have hG := (((hS4.2.2.setCell (p := ⟨w.heap.size + 1, 0, none⟩) hle (.bool s)).setCell (p := ⟨w.heap.size + 1, 1, none⟩) hle (.slice a3 m3 k3)).setCell (p := ⟨w.heap.size + 1, 2, none⟩) hle (.int .i64 e))
  clear hS0 hS4 hb1 HO
  go_wp2
  refine bodyPost_ret (v := .agg #[.bool s, .slice a3 m3 k3, .int .i64 e]) ?_ rfl ⟨a3, m3, k3, rfl, hl3.set3 hl6 _ _ _, hG⟩
  simp [results, Tryz.results64, go_sem, k0, k1, k2]
set_option maxHeartbeats 1600000 in
/-- a number, scaled -/
theorem scaled38 (s : Bool) (ad : Option Addr) (n cap x : Nat) (e p : Int) (w : World) (hx : Lim w ad n cap 18446744073709551616 x) (e1 : -1048576 ≤ e) (e2 : e ≤ 1048576) (p1 : -2147483648 ≤ p) (p2 : p ≤ 2147483648) :
    Calls Tryz.prog 169 #[.agg #[.bool s, .slice ad n cap, .int .i64 e], .int .i64 p] w fun r w' => r = .returned (.agg #[.bool s, .slice ad n cap, .int .i64 (e + p)]) ∧ Lim w' ad n cap 18446744073709551616 x ∧ Gr w w' := by
  have H : Hid (Lim w ad n cap 18446744073709551616 x) := hx
  clear hx
  go_enter Tryz.func169, Tryz.ntmps169
  go_wp2
  have G : Gr w ((w.alloc (.cells #[.bool s, .slice ad n cap, .int .i64 e] 84)).alloc (.cells #[.bool s, .slice ad n cap, .int .i64 (e + p)] 84)) := gr2 _ _
  refine bodyPost_ret (v := .agg #[.bool s, .slice ad n cap, .int .i64 (e + p)]) (by simp [results, Tryz.results169, go_sem]) rfl ⟨rfl, H.out.gr G, G⟩
end Go.Proofs.YtbkkpbffdnhidaaGreatDoor
namespace Go.Proofs.YtbkkpbffdnhidaaGreatDoor
open Go.RowKit
set_option linter.unusedVariables false

theorem digit_bit {x k : Nat} {xs : List Nat} (d : Dg 18446744073709551616 x xs) (hk : k / 64 < xs.length) : xs.getD (k / 64) 0 / 2 ^ (k % 64) % 2 = x / 2 ^ k % 2 := by
  have e1 : x / 2 ^ k = nv 18446744073709551616 (xs.drop (k / 64)) / 2 ^ (k % 64) := by
    rw [← nv_dropq (by omega) d.2.1 (k / 64) (by omega), d.1, pow64, Nat.div_div_eq_div_mul, ← Nat.pow_add, show 64 * (k / 64) + k % 64 = k by omega]
  rw [e1, drop_at hk]
  simp only [nv]
  have hr : k % 64 < 64 := by omega
  generalize k % 64 = r at *
  have e2 : (18446744073709551616 : Nat) = 2 ^ r * (2 * 2 ^ (63 - r)) := by
    rw [← Nat.pow_succ', ← Nat.pow_add, show r + (63 - r).succ = 64 by omega]
  generalize nv 18446744073709551616 (xs.drop (k / 64 + 1)) = N
  generalize xs.getD (k / 64) 0 = y
  rw [e2, Nat.mul_assoc, Nat.add_mul_div_left _ _ (Nat.two_pow_pos r), Nat.mul_assoc 2, Nat.add_mul_mod_self_left]
/-- what TellDyad tells of sign, size and power -/
def TellR (w' : World) (r : Ending) (s : Bool) (x : Nat) (e : Int) : Prop :=
  (x = 0 ∧ r = .returned (.tuple #[zeroD, .bool true])) ∨
  (∃ (t q : Nat) (ad : Option Addr) (n cap : Nat), x = 2 ^ t * (2 * q + 1) ∧ Fits (2 * q + 1) (e + (t : Int)) ∧ r = .returned (.tuple #[.agg #[.bool s, .slice ad n cap, .int .i64 (e + (t : Int))], .bool true]) ∧ Lim w' ad n cap 18446744073709551616 (2 * q + 1) ∧ n ≤ 4096) ∨
  (∃ t q : Nat, x = 2 ^ t * (2 * q + 1) ∧ ¬ Fits (2 * q + 1) (e + (t : Int)) ∧ r = .returned (.tuple #[zeroD, .bool false]))
theorem fits_len {w : World} {ad : Option Addr} {n cap q : Nat} {p : Int} (h : Lim w ad n cap 18446744073709551616 (2 * q + 1)) : Fits (2 * q + 1) p ↔ (n ≤ 4096 ∧ -1048576 ≤ p ∧ p ≤ 1048576) := by
  obtain ⟨xs, r, d⟩ := h
  rw [← right_iff (s := false) d]
  have hp : 0 < xs.length := Nat.pos_of_ne_zero fun e => by
    have := (d.zero_iff (by omega)).1 e
    omega
  have htop := d.2.2 (xs.length - 1) (by omega)
  have hod := odd_digit d hp
  have hl := r.len
  unfold RightD
  constructor
  · rintro (⟨h0, _⟩ | ⟨_, h1, _, _, h2, h3⟩)
    · omega
    · exact ⟨by omega, h2, h3⟩
  · rintro ⟨h1, h2, h3⟩
    exact Or.inr ⟨hp, by omega, htop, by omega, h2, h3⟩
theorem blk2 (w : World) (o1 o2 : Obj) : ((w.alloc o1).alloc o2).heap[w.heap.size]? = some o1 ∧ ((w.alloc o1).alloc o2).heap[w.heap.size + 1]? = some o2 := by
  refine ⟨?_, second_block w o1 o2⟩
  show ((w.heap.push _).push _)[w.heap.size]? = _
  simp only [Array.getElem?_push, Array.size_push]
  rw [if_neg (by omega), if_pos trivial]
set_option maxRecDepth 10000 in
set_option maxHeartbeats 1600000 in
theorem tell_z (s : Bool) (ad : Option Addr) (n cap : Nat) (e : Int) (w : World) (hx : Lim w ad n cap 18446744073709551616 0) :
    Calls Tryz.prog 99 #[.agg #[.bool s, .slice ad n cap, .int .i64 e]] w fun r w' => r = .returned (.tuple #[zeroD, .bool true]) ∧ Gr w w' := by
  have HT : Hid (∀ w1, Gr w w1 → Calls Tryz.prog 105 #[.slice ad n cap] w1 fun r w' => ∃ ad' cap', r = .returned (.slice ad' 0 cap') ∧ Gr w1 w') := fun w1 g => by
    refine (trimL ad n cap 0 w1 (hx.gr g) (by rw [bl_zero]; omega)).mono ?_
    rintro r w' ⟨a, b, c, rfl, _, h3, h4⟩
    obtain rfl := lim_zero h3
    exact ⟨a, c, rfl, h4⟩
  clear hx
  have BB : Hid _ := blk2 w (.cells #[.bool s, .slice ad n cap, .int .i64 e] 84) (.cells #[.bool false, .slice none 0 0, .int .i64 0] 24)
  go_enter Tryz.func99, Tryz.ntmps99
  go_wp2_with (go_at_call 105; (with_reducible refine (HT.out _ (gr2 _ _)).mono ?_); rintro r w1 ⟨a3, c3, rfl, g1⟩; have kb := g1.keepH BB.out.2; obtain ⟨t0, t1, t2, u0, u1, u2⟩ := Out3.of kb)
  refine bodyPost_ret (v := .tuple #[zeroD, .bool true]) ?_ rfl ⟨rfl, ?_⟩
  · simp [results, Tryz.results99, go_sem, t0, t1, t2, zeroD]
  · exact ((((gr2 _ _).trans g1).setCell (p := ⟨w.heap.size + 1, 0, none⟩) (Nat.le_succ _) _).setCell (p := ⟨w.heap.size + 1, 1, none⟩) (Nat.le_succ _) _).setCell (p := ⟨w.heap.size + 1, 2, none⟩) (Nat.le_succ _) _

theorem pow_dvd_next {x k : Nat} (h : 2 ^ k ∣ x) (hb : x / 2 ^ k % 2 = 0) : 2 ^ (k + 1) ∣ x := by
  obtain ⟨y, rfl⟩ := h
  rw [Nat.mul_div_cancel_left _ (Nat.two_pow_pos k)] at hb
  obtain ⟨z, rfl⟩ := Nat.dvd_of_mod_eq_zero hb
  exact ⟨z, by rw [Nat.pow_succ]; ac_rfl⟩
set_option maxRecDepth 10000 in
set_option maxHeartbeats 1600000 in
theorem tell_p (s : Bool) (ad : Option Addr) (n cap x : Nat) (e : Int) (w : World) (hx : Lim w ad n cap 18446744073709551616 x) (x0 : 0 < x) (hb : bl x ≤ 34359738368) (e1 : -1000000000000 ≤ e) (e2 : e ≤ 1000000000000) :
    Calls Tryz.prog 99 #[.agg #[.bool s, .slice ad n cap, .int .i64 e]] w fun r w' => TellR w' r s x e ∧ Gr w w' := by
  have HT : Hid (∀ w1, Gr w w1 → Calls Tryz.prog 105 #[.slice ad n cap] w1 fun r w' => ∃ b off m' cap' xs, r = .returned (.slice (some ⟨b, off, none⟩) m' cap') ∧ m' ≤ cap' ∧ cap' ≤ 9223372036854775807 ∧ Hid (Row w' (some ⟨b, off, none⟩) m' cap' xs ∧ Dg 18446744073709551616 x xs) ∧ Gr w1 w') := fun w1 g => by
    refine (trimL ad n cap x w1 (hx.gr g) (by omega)).mono ?_
    rintro r w' ⟨a, b, c, rfl, _, ⟨xs, h3, h5⟩, h4⟩
    have hpos : 0 < b := Nat.pos_of_ne_zero fun h0 => by
      have := (h5.zero_iff (by omega)).1 (by rw [h3.len]; exact h0)
      omega
    obtain ⟨p, o, rfl, _, _⟩ := h3.cells hpos
    exact ⟨p, o, b, c, xs, rfl, h3.le, h3.max, ⟨h3, h5⟩, h4⟩
  clear hx
  have X0 : Hid (0 < x) := x0
  have BL := bl_lt x
  have BLT : Hid (x < 2 ^ bl x) := BL
  clear BL x0
  have BB : Hid _ := blk2 w (.cells #[.bool s, .slice ad n cap, .int .i64 e] 84) (.cells #[.bool false, .slice none 0 0, .int .i64 0] 24)
  go_enter Tryz.func99, Tryz.ntmps99
  go_wp2_with (go_at_call 105; (with_reducible refine (HT.out _ (gr2 _ _)).mono ?_); rintro r w1 ⟨b, off, m, c3, xs, rfl, hmc, hcm, hRD, g1⟩; have kb := g1.keepH BB.out.2; have ka := g1.keepH BB.out.1; obtain ⟨t0, t1, t2, u0, u1, u2⟩ := Out3.of kb; obtain ⟨x0, x1, x2⟩ := cells_ofT ka; obtain ⟨m, rfl⟩ : ∃ m', m = m' + 1 := (by refine ⟨m - 1, ?_⟩; have h1 := (hRD.out.2.zero_iff (by omega)).1; rw [hRD.out.1.len] at h1; have := X0.out; omega); have zN : ((m : Int) + 1 == 0) = false := (by simp; omega))
  have hbl := bl_len hRD.out.2
  rw [hRD.out.1.len] at hbl
  have hbl' : Hid (bl x ≤ 64 * (m + 1)) := hbl
  clear hbl
  have G1 : Hid (Gr w w1) := (gr2 _ _).trans g1
  clear g1
  go_loop [5] (fun t => ∃ k : Nat, k < 34359738368 ∧ t = .int .i64 (k : Int) ∧ Hid (k < bl x ∧ 2 ^ k ∣ x)) (fun t => bl x - (intOf t).toNat)
  case atStart =>
    refine ⟨0, by omega, rfl, ?_, by simp⟩
    have := X0.out
    exact Nat.pos_of_ne_zero fun h0 => by rw [bl_zero_iff] at h0; omega
  case round =>
    obtain ⟨k, hk, rfl, hK⟩ := hrel
    have hk64 : k / 64 < m + 1 := by have := hbl'.out; have := hK.out.1; omega
    have eq : (k : Int) / 64 = ((k / 64 : Nat) : Int) := by omega
    have er : (k : Int) % 64 = ((k % 64 : Nat) : Int) := by omega
    have hr : k % 64 < 64 := by omega
    obtain ⟨b', o', heq, _, hc⟩ := hRD.out.1.cells (by omega)
    simp only [Option.some.injEq, Addr.mk.injEq, and_true] at heq
    obtain ⟨rfl, rfl⟩ := heq
    have hcell := hc (k / 64) hk64
    have hbit := digit_bit hRD.out.2 (k := k) (by rw [hRD.out.1.len]; exact hk64)
    have hv := getD_lt (by omega) hRD.out.2.2.1 (k / 64)
    clear hc
    generalize xs.getD (k / 64) 0 = v at *
    have i1 : ((k / 64 : Nat) : Int) < (m : Int) + 1 := by omega
    have SHR : ((v : Int) / 2 ^ (k % 64)).tmod 2 = ((x / 2 ^ k % 2 : Nat) : Int) := by
      have e0 : (v : Int) / 2 ^ (k % 64) = ((v / 2 ^ (k % 64) : Nat) : Int) := by rw [Int.natCast_ediv, Int.natCast_pow]; rfl
      rw [e0, ← hbit, Int.tmod_eq_emod_of_nonneg (Int.natCast_nonneg _), Int.natCast_emod]
      rfl
    clear hbit
    generalize k / 64 = kq at *
    generalize k % 64 = kr at *
    by_cases h2 : x / 2 ^ k % 2 = 0
    · have NX : Hid (k + 1 < bl x ∧ 2 ^ (k + 1) ∣ x) := by
        have h3 := pow_dvd_next hK.out.2 h2
        refine ⟨?_, h3⟩
        have h4 := Nat.le_of_dvd X0.out h3
        have h5 := BLT.out
        exact (Nat.pow_lt_pow_iff_right (by omega : 1 < 2)).1 (by omega)
      have S0 : ((v : Int) / 2 ^ kr).tmod 2 = 0 := by rw [SHR, h2]; rfl
      clear SHR
      go_wp2_with (first | (simp only [eq]) | (simp only [er]))
      go_round
      case rel => exact ⟨k + 1, by have := NX.out.1; omega, by go_num, NX.out⟩
      case measure => have := NX.out.1; simp only [intOf]; omega
    · obtain ⟨q, hq⟩ : ∃ q, x / 2 ^ k = 2 * q + 1 := ⟨x / 2 ^ k / 2, by omega⟩
      have FORM : Hid (x = 2 ^ k * (2 * q + 1)) := by
        show _ = _
        rw [← hq]
        exact (Nat.mul_div_cancel' hK.out.2).symm
      have S1 : ((v : Int) / 2 ^ kr).tmod 2 = 1 := by rw [SHR, show x / 2 ^ k % 2 = 1 by omega]; rfl
      have DN : Hid (∀ w2, Gr w1 w2 → Calls Tryz.prog 141 #[.slice (some ⟨b, off, none⟩) (m + 1) c3, .int .i64 (k : Int)] w2 fun r w' => ∃ a4 n4 c4 b4, r = .returned (.tuple #[.slice a4 n4 c4, .bool b4]) ∧ Hid (Lim w' a4 n4 c4 18446744073709551616 (2 * q + 1)) ∧ Gr w2 w') := fun w2 g => by
        have := down83 (some ⟨b, off, none⟩) (m + 1) c3 x k w2 (Lim.gr ⟨xs, hRD.out⟩ g) (by omega) (by omega)
        rw [hq] at this
        refine this.mono ?_
        intro r w' h
        unfold DownR at h
        exact h
      clear SHR h2 hq
      have tok : True := trivial
      go_upto_region 9 with (first | (go_at_call 141; have _t := tok; (with_reducible refine (DN.out _ (Gr.refl _)).mono ?_); rintro r w4 ⟨a4, n4, c4, b4, rfl, hl4, g4⟩; clear tok; have kb4 := g4.keepH kb; have ka4 := g4.keepH ka; clear t0 t1 t2 u0 u1 u2 x0 x1 x2; obtain ⟨t0, t1, t2, u0, u1, u2⟩ := Out3.of kb4; obtain ⟨x0, x1, x2⟩ := cells_ofT ka4))
      by_cases f1 : n4 ≤ 4096
      · have f1' : ¬ (n4 : Int) > 4096 := by omega
        by_cases f2 : e + (k : Int) ≤ 1048576
        · have f2' : ¬ e + (k : Int) > 1048576 := by omega
          by_cases f3 : -1048576 ≤ e + (k : Int)
          · have f3' : ¬ e + (k : Int) < -1048576 := by omega
            go_wp2
            refine bodyPost_ret (v := .tuple #[.agg #[.bool s, .slice a4 n4 c4, .int .i64 (e + (k : Int))], .bool true]) ?_ rfl ⟨?_, ((G1.out.trans g4).setCell (p := ⟨w.heap.size + 1, 0, none⟩) (Nat.le_succ _) _).setCell (p := ⟨w.heap.size + 1, 1, none⟩) (Nat.le_succ _) _ |>.setCell (p := ⟨w.heap.size + 1, 2, none⟩) (Nat.le_succ _) _⟩
            · simp [results, Tryz.results99, go_sem, t0, t1, t2]
            · unfold TellR
              exact Or.inr (Or.inl ⟨k, q, a4, n4, c4, FORM.out, (fits_len hl4.out).2 ⟨f1, f3, f2⟩, rfl, hl4.out.set3 (hl4.out.apart kb4) _ _ _, f1⟩)
          · have f3' : e + (k : Int) < -1048576 := by omega
            go_wp2
            refine bodyPost_ret (v := .tuple #[zeroD, .bool false]) ?_ rfl ⟨?_, ((G1.out.trans g4).setCell (p := ⟨w.heap.size + 1, 0, none⟩) (Nat.le_succ _) _).setCell (p := ⟨w.heap.size + 1, 1, none⟩) (Nat.le_succ _) _ |>.setCell (p := ⟨w.heap.size + 1, 2, none⟩) (Nat.le_succ _) _⟩
            · simp [results, Tryz.results99, go_sem, t0, t1, t2, zeroD]
            · unfold TellR
              exact Or.inr (Or.inr ⟨k, q, FORM.out, fun h => by have := (fits_len hl4.out).1 h; omega, rfl⟩)
        · have f2' : e + (k : Int) > 1048576 := by omega
          go_wp2
          refine bodyPost_ret (v := .tuple #[zeroD, .bool false]) ?_ rfl ⟨?_, ((G1.out.trans g4).setCell (p := ⟨w.heap.size + 1, 0, none⟩) (Nat.le_succ _) _).setCell (p := ⟨w.heap.size + 1, 1, none⟩) (Nat.le_succ _) _ |>.setCell (p := ⟨w.heap.size + 1, 2, none⟩) (Nat.le_succ _) _⟩
          · simp [results, Tryz.results99, go_sem, t0, t1, t2, zeroD]
          · unfold TellR
            exact Or.inr (Or.inr ⟨k, q, FORM.out, fun h => by have := (fits_len hl4.out).1 h; omega, rfl⟩)
      · have f1' : (n4 : Int) > 4096 := by omega
        go_wp2
        refine bodyPost_ret (v := .tuple #[zeroD, .bool false]) ?_ rfl ⟨?_, ((G1.out.trans g4).setCell (p := ⟨w.heap.size + 1, 0, none⟩) (Nat.le_succ _) _).setCell (p := ⟨w.heap.size + 1, 1, none⟩) (Nat.le_succ _) _ |>.setCell (p := ⟨w.heap.size + 1, 2, none⟩) (Nat.le_succ _) _⟩
        · simp [results, Tryz.results99, go_sem, t0, t1, t2, zeroD]
        · unfold TellR
          exact Or.inr (Or.inr ⟨k, q, FORM.out, fun h => by have := (fits_len hl4.out).1 h; omega, rfl⟩)
/-- TellDyad -/
theorem tell55 (s : Bool) (ad : Option Addr) (n cap x : Nat) (e : Int) (w : World) (hx : Lim w ad n cap 18446744073709551616 x) (hb : bl x ≤ 34359738368) (e1 : -1000000000000 ≤ e) (e2 : e ≤ 1000000000000) :
    Calls Tryz.prog 99 #[.agg #[.bool s, .slice ad n cap, .int .i64 e]] w fun r w' => TellR w' r s x e ∧ Gr w w' := by
  by_cases x0 : x = 0
  · subst x0
    refine (tell_z s ad n cap e w hx).mono ?_
    rintro r w' ⟨rfl, g⟩
    exact ⟨by unfold TellR; exact Or.inl ⟨rfl, rfl⟩, g⟩
  · exact tell_p s ad n cap x e w hx (by omega) hb e1 e2
end Go.Proofs.YtbkkpbffdnhidaaGreatDoor
namespace Go.Proofs.YtbkkpbffdnhidaaGreatDoor
open Go.RowKit
set_option linter.unusedVariables false

theorem odd_form : ∀ x : Nat, 0 < x → ∃ t q, x = 2 ^ t * (2 * q + 1) := by
  intro x
  induction x using Nat.strongRecOn with
  | ind x ih =>
    intro h
    by_cases h1 : x % 2 = 1
    · exact ⟨0, x / 2, by rw [Nat.pow_zero]; omega⟩
    · obtain ⟨t, q, e⟩ := ih (x / 2) (by omega) (by omega)
      exact ⟨t + 1, q, by rw [Nat.pow_succ, Nat.mul_comm (2 ^ t) 2, Nat.mul_assoc, ← e]; omega⟩
theorem odd_unique {t q t' q' : Nat} (h : 2 ^ t * (2 * q + 1) = 2 ^ t' * (2 * q' + 1)) : t = t' ∧ q = q' := by
  have key : ∀ (t q t' q' : Nat), 2 ^ t * (2 * q + 1) = 2 ^ t' * (2 * q' + 1) → t' ≤ t := by
    intro t q t' q' h
    refine Nat.le_of_not_lt fun hlt => ?_
    obtain ⟨d, rfl⟩ : ∃ d, t' = t + (d + 1) := ⟨t' - t - 1, by omega⟩
    rw [Nat.pow_add, Nat.mul_assoc] at h
    have h1 := Nat.eq_of_mul_eq_mul_left (Nat.two_pow_pos t) h
    rw [Nat.pow_succ, Nat.mul_comm (2 ^ d) 2, Nat.mul_assoc] at h1
    omega
  have e1 : t = t' := Nat.le_antisymm (key _ _ _ _ h.symm) (key _ _ _ _ h)
  subst e1
  have := Nat.eq_of_mul_eq_mul_left (Nat.two_pow_pos t) h
  exact ⟨rfl, by omega⟩
set_option maxRecDepth 10000 in
set_option maxHeartbeats 1600000 in
theorem told_z (s : Bool) (ad : Option Addr) (n cap : Nat) (e : Int) (w : World) (H : Hid (∀ w1, Gr w w1 → Calls Tryz.prog 99 #[.agg #[.bool s, .slice ad n cap, .int .i64 e]] w1 fun r w' => r = .returned (.tuple #[.agg #[.bool false, .slice none 0 0, .int .i64 0], .bool true]) ∧ Gr w1 w')) :
    Calls Tryz.prog 62 #[.agg #[.bool s, .slice ad n cap, .int .i64 e]] w fun r w' => r = .returned (.tuple #[zeroD, .int .i64 0]) ∧ Gr w w' := by
  have BB : Hid _ := blk2 w (.cells #[.bool s, .slice ad n cap, .int .i64 e] 84) (.cells #[.bool false, .slice none 0 0, .int .i64 0] 24)
  go_enter Tryz.func62, Tryz.ntmps62
  go_wp2_with (go_at_call 99; (with_reducible refine (H.out _ (gr2 _ _)).mono ?_); rintro r w1 ⟨rfl, g1⟩; have kb := ((Gr.refl w1).alloc (.cells #[.bool false, .slice none 0 0, .int .i64 0] 24)).keepH (g1.keepH BB.out.2); obtain ⟨t0, t1, t2, u0, u1, u2⟩ := Out3.of kb)
  refine bodyPost_ret (v := .tuple #[zeroD, .int .i64 0]) ?_ rfl ⟨rfl, ((((gr2 _ _).trans g1).alloc _).setCell (p := ⟨w.heap.size + 1, 0, none⟩) (Nat.le_succ _) _).setCell (p := ⟨w.heap.size + 1, 1, none⟩) (Nat.le_succ _) _ |>.setCell (p := ⟨w.heap.size + 1, 2, none⟩) (Nat.le_succ _) _⟩
  simp [results, Tryz.results62, go_sem, t0, t1, t2, zeroD]
set_option maxRecDepth 10000 in
set_option maxHeartbeats 1600000 in
theorem told_l (s : Bool) (ad : Option Addr) (n cap : Nat) (e : Int) (w : World) (H : Hid (∀ w1, Gr w w1 → Calls Tryz.prog 99 #[.agg #[.bool s, .slice ad n cap, .int .i64 e]] w1 fun r w' => r = .returned (.tuple #[.agg #[.bool false, .slice none 0 0, .int .i64 0], .bool false]) ∧ Gr w1 w')) :
    Calls Tryz.prog 62 #[.agg #[.bool s, .slice ad n cap, .int .i64 e]] w fun r w' => r = .returned (.tuple #[zeroD, .int .i64 3]) ∧ Gr w w' := by
  have BB : Hid _ := blk2 w (.cells #[.bool s, .slice ad n cap, .int .i64 e] 84) (.cells #[.bool false, .slice none 0 0, .int .i64 0] 24)
  go_enter Tryz.func62, Tryz.ntmps62
  go_wp2_with (go_at_call 99; (with_reducible refine (H.out _ (gr2 _ _)).mono ?_); rintro r w1 ⟨rfl, g1⟩; have kb := ((Gr.refl w1).alloc (.cells #[.bool false, .slice none 0 0, .int .i64 0] 24)).keepH (g1.keepH BB.out.2); obtain ⟨t0, t1, t2, u0, u1, u2⟩ := Out3.of kb)
  refine bodyPost_ret (v := .tuple #[zeroD, .int .i64 3]) ?_ rfl ⟨rfl, ((((gr2 _ _).trans g1).alloc _).setCell (p := ⟨w.heap.size + 1, 0, none⟩) (Nat.le_succ _) _).setCell (p := ⟨w.heap.size + 1, 1, none⟩) (Nat.le_succ _) _ |>.setCell (p := ⟨w.heap.size + 1, 2, none⟩) (Nat.le_succ _) _⟩
  simp [results, Tryz.results62, go_sem, t0, t1, t2, zeroD]
set_option maxRecDepth 10000 in
set_option maxHeartbeats 1600000 in
theorem told_f (s : Bool) (ad : Option Addr) (n cap : Nat) (e : Int) (w : World) (s' : Bool) (e' : Int) (y : Nat) (H : Hid (∀ w1, Gr w w1 → Calls Tryz.prog 99 #[.agg #[.bool s, .slice ad n cap, .int .i64 e]] w1 fun r w' => ∃ a4 n4 c4, r = .returned (.tuple #[.agg #[.bool s', .slice a4 n4 c4, .int .i64 e'], .bool true]) ∧ Hid (Lim w' a4 n4 c4 18446744073709551616 y ∧ n4 ≤ 4096) ∧ Gr w1 w')) :
    Calls Tryz.prog 62 #[.agg #[.bool s, .slice ad n cap, .int .i64 e]] w fun r w' => (∃ a4 n4 c4, r = .returned (.tuple #[.agg #[.bool s', .slice a4 n4 c4, .int .i64 e'], .int .i64 0]) ∧ Lim w' a4 n4 c4 18446744073709551616 y ∧ n4 ≤ 4096) ∧ Gr w w' := by
  have BB : Hid _ := blk2 w (.cells #[.bool s, .slice ad n cap, .int .i64 e] 84) (.cells #[.bool false, .slice none 0 0, .int .i64 0] 24)
  go_enter Tryz.func62, Tryz.ntmps62
  go_wp2_with (go_at_call 99; (with_reducible refine (H.out _ (gr2 _ _)).mono ?_); rintro r w1 ⟨a4, n4, c4, rfl, hl4, g1⟩; have kb := ((Gr.refl w1).alloc (.cells #[.bool s', .slice a4 n4 c4, .int .i64 e'] 24)).keepH (g1.keepH BB.out.2); obtain ⟨t0, t1, t2, u0, u1, u2⟩ := Out3.of kb)
  have hlA := hl4.out.1.gr ((Gr.refl w1).alloc (.cells #[.bool s', .slice a4 n4 c4, .int .i64 e'] 24))
  refine bodyPost_ret (v := .tuple #[.agg #[.bool s', .slice a4 n4 c4, .int .i64 e'], .int .i64 0]) ?_ rfl ⟨⟨a4, n4, c4, rfl, hlA.set3 (hlA.apart kb) _ _ _, hl4.out.2⟩, ((((gr2 _ _).trans g1).alloc _).setCell (p := ⟨w.heap.size + 1, 0, none⟩) (Nat.le_succ _) _).setCell (p := ⟨w.heap.size + 1, 1, none⟩) (Nat.le_succ _) _ |>.setCell (p := ⟨w.heap.size + 1, 2, none⟩) (Nat.le_succ _) _⟩
  simp [results, Tryz.results62, go_sem, t0, t1, t2]
/-- told: the right dyad of a number, or ErrLong -/
theorem told26 (s : Bool) (ad : Option Addr) (n cap x : Nat) (e : Int) (w : World) (hx : Lim w ad n cap 18446744073709551616 x) (hb : bl x ≤ 34359738368) (e1 : -1000000000000 ≤ e) (e2 : e ≤ 1000000000000) :
    Calls Tryz.prog 62 #[.agg #[.bool s, .slice ad n cap, .int .i64 e]] w fun r w' => Settled w' r s x e ∧ Gr w w' := by
  have T : ∀ w1, Gr w w1 → Calls Tryz.prog 99 #[.agg #[.bool s, .slice ad n cap, .int .i64 e]] w1 fun r w' => TellR w' r s x e ∧ Gr w1 w' := fun w1 g => tell55 s ad n cap x e w1 (hx.gr g) hb e1 e2
  by_cases x0 : x = 0
  · subst x0
    refine (told_z s ad n cap e w fun w1 g => (T w1 g).mono ?_).mono ?_
    · rintro r w' ⟨h, g'⟩
      unfold TellR at h
      rcases h with ⟨_, h⟩ | ⟨t, q, _, _, _, h, _⟩ | ⟨t, q, h, _⟩
      · exact ⟨h, g'⟩
      · exact absurd h.symm (Nat.ne_of_gt (Nat.mul_pos (Nat.two_pow_pos t) (by omega)))
      · exact absurd h.symm (Nat.ne_of_gt (Nat.mul_pos (Nat.two_pow_pos t) (by omega)))
    · rintro r w' ⟨h, g'⟩
      exact ⟨by unfold Settled; exact Or.inl ⟨rfl, h⟩, g'⟩
  · obtain ⟨t, q, ht⟩ := odd_form x (by omega)
    by_cases hF : Fits (2 * q + 1) (e + (t : Int))
    · refine (told_f s ad n cap e w s (e + (t : Int)) (2 * q + 1) fun w1 g => (T w1 g).mono ?_).mono ?_
      · rintro r w' ⟨h, g'⟩
        unfold TellR at h
        rcases h with ⟨h, _⟩ | ⟨t', q', a4, n4, c4, h1, h2, h3, h4, h5⟩ | ⟨t', q', h1, h2, _⟩
        · exact absurd h x0
        · obtain ⟨rfl, rfl⟩ := odd_unique (ht.symm.trans h1)
          exact ⟨a4, n4, c4, h3, ⟨h4, h5⟩, g'⟩
        · obtain ⟨rfl, rfl⟩ := odd_unique (ht.symm.trans h1)
          exact absurd hF h2
      · rintro r w' ⟨⟨a4, n4, c4, h1, h2, h3⟩, g'⟩
        exact ⟨by unfold Settled; exact Or.inr (Or.inl ⟨t, q, a4, n4, c4, ht, hF, h1, h2, h3⟩), g'⟩
    · refine (told_l s ad n cap e w fun w1 g => (T w1 g).mono ?_).mono ?_
      · rintro r w' ⟨h, g'⟩
        unfold TellR at h
        rcases h with ⟨h, _⟩ | ⟨t', q', a4, n4, c4, h1, h2, _⟩ | ⟨t', q', h1, h2, h3⟩
        · exact absurd h x0
        · obtain ⟨rfl, rfl⟩ := odd_unique (ht.symm.trans h1)
          exact absurd h2 hF
        · exact ⟨h3, g'⟩
      · rintro r w' ⟨h, g'⟩
        exact ⟨by unfold Settled; exact Or.inr (Or.inr ⟨t, q, ht, hF, h⟩), g'⟩
end Go.Proofs.YtbkkpbffdnhidaaGreatDoor
